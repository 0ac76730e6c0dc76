"""Checks of arguments that several modules need."""

from tiltheap.errors import InvalidNumber, InvalidPlace, UnknownMarble


def is_number(value, limit):
    """Tell whether a value is an integer from 0 to a limit."""
    # Python counts True and False among the integers.
    if isinstance(value, bool) or not isinstance(value, int):
        return False
    return 0 <= value <= limit


def is_place(value, height, width):
    """Tell whether a value is a place on a tray with so many rows and columns."""
    if not isinstance(value, tuple) or len(value) != 2:
        return False
    return is_number(value[0], height - 1) and is_number(value[1], width - 1)


def check_number(value, limit):
    """Raise InvalidNumber unless a value is an integer from 0 to a limit."""
    if not is_number(value, limit):
        raise InvalidNumber(f"not a number from 0 to {limit}")


def check_marble(tray, marble):
    """Raise UnknownMarble unless a marble lies on a tray."""
    if marble not in tray:
        raise UnknownMarble(marble)


def check_place(tray, place):
    """Raise InvalidPlace unless a place exists on a tray."""
    if not is_place(place, tray.height, tray.width):
        raise InvalidPlace("no such place on the tray")
