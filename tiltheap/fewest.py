"""The fewest tilts to a place, to a meeting or to a tray."""

from tiltheap.checks import check_marble, check_number, check_place
from tiltheap.errors import InvalidNumber, SameMarble
from tiltheap.words import ALONG_ROWS, OPPOSITES, Word, is_tilt

MAX_COUNT = 1000
CLOCKWISE = {"u": "r", "r": "d", "d": "l", "l": "u"}


def fewest_to_place(tray, marble, place):
    """Return the fewest tilts after which a marble lies at a place, or None."""
    check_marble(tray, marble)
    check_place(tray, place)
    return _first_way(tray, lambda reached: reached(marble) == place)


def fewest_to_meet(tray, one, other):
    """Return the fewest tilts after which two marbles lie side by side, or None."""
    check_marble(tray, one)
    check_marble(tray, other)
    if one == other:
        raise SameMarble("a marble does not meet itself")
    return _first_way(tray, lambda reached: _are_neighbours(reached(one), reached(other)))


def fewest_to_tray(tray, goal):
    """Return the fewest tilts after which a tray is equal to another one, or None."""
    return _first_way(tray, lambda reached: reached == goal)


def places_within(tray, marble, most):
    """Return the ascending list of the places of a marble after so many tilts or fewer."""
    check_marble(tray, marble)
    check_number(most, MAX_COUNT)
    places = set()
    for tilts, reached in _shortest_ways(tray):
        if len(tilts) > most:
            break
        places.add(reached(marble))
    return sorted(places)


def trays_behind(tray, first, count):
    """Yield so many trays: that after a first tilt, and those after further ones, clockwise."""
    check_number(count, MAX_COUNT)
    if not is_tilt(first):
        raise InvalidNumber("the first tilt is one of the four letters")
    reached = tray
    tilt = first
    for _ in range(count):
        reached = reached >> Word(tilt)
        yield reached
        tilt = CLOCKWISE[tilt]


def _are_neighbours(place, other):
    """Tell whether two places are side by side in a row or in a column."""
    return abs(place[0] - other[0]) + abs(place[1] - other[1]) == 1


def _first_way(tray, is_goal):
    """Return the first of the shortest ways to a tray that is a goal, or None."""
    for tilts, reached in _shortest_ways(tray):
        if is_goal(reached):
            return tilts
    return None


def _shortest_ways(tray):
    """Yield each tray that can be reached, behind the first of the shortest ways to it.

    Shorter ways come first, and ways of the same length in the order of the alphabet.
    """
    seen = set()
    seen.add(tray.rows)
    ways = [("", tray)]
    while ways:
        longer_ways = []
        for tilts, reached in ways:
            yield tilts, reached
            for tilt in _next_tilts(tilts):
                after = reached >> Word(tilt)
                if after.rows not in seen:
                    seen.add(after.rows)
                    longer_ways.append((tilts + tilt, after))
        ways = longer_ways


def _next_tilts(tilts):
    """Return, in the order of the alphabet, the tilts that are not needless behind others.

    A needless tilt leads to where a shorter way leads, too.
    """
    if tilts == "":
        return "dlru"
    if len(tilts) == 1:
        return "du" if tilts in ALONG_ROWS else "lr"
    return OPPOSITES[tilts[-2]]
