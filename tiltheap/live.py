"""Live trays, and logs of tilts."""

from tiltheap.checks import is_place
from tiltheap.errors import AlreadyOpen, InvalidMarble, InvalidOperation, InvalidPlace, InvalidTilt
from tiltheap.trays import EMPTY, LETTERS, Tray
from tiltheap.words import Word, is_tilt


def _after_tilt(tray, tilt):
    """Return the tray after a tilt, and the string of the marbles that move."""
    if not is_tilt(tilt):
        raise InvalidTilt("a tilt is one of the four letters")
    after = tray >> Word(tilt)
    moved = [marble for marble in tray.marbles if after(marble) != tray(marble)]
    return after, "".join(moved)


def _after_put(tray, marble, place):
    """Return the tray with a further marble, and how many marbles it has."""
    if not _is_letter(marble) or marble in tray:
        raise InvalidMarble(marble)
    # Where there is no such place, `at` raises InvalidPlace itself.
    if tray.at(place) is not None:
        raise InvalidPlace("a marble lies at the place already")
    after = _with_cell(tray, place, marble)
    return after, len(after.marbles)


def _after_take(tray, marble):
    """Return the tray without a marble, and the place where the marble lay."""
    place = tray(marble)
    return _with_cell(tray, place, EMPTY), place


def _is_letter(value):
    """Tell whether a value is a letter a to z."""
    # Without the length, the empty string and strings like "ab" would count, too.
    return isinstance(value, str) and len(value) == 1 and value in LETTERS


def _with_cell(tray, place, cell):
    """Return a tray that has another cell at a place."""
    row, column = place
    rows = list(tray.rows)
    rows[row] = rows[row][:column] + cell + rows[row][column + 1:]
    return Tray(*rows)


ACTIONS = {"tilt": _after_tilt, "put": _after_put, "take": _after_take}
SIZES = {"tilt": 2, "put": 3, "take": 2}


class LiveTray:
    """A tray that is tilted, gets marbles and loses some, all of which can be undone."""

    def __init__(self, tray):
        # The operations, those that are undone included; the trays before, between and
        # after them; and how many operations are in effect. A state is never modified,
        # but replaced by another one, so that a block can return to the one before it.
        self._state = ((), (tray,), 0)
        self._state_before_block = None

    @classmethod
    def replay(cls, tray, operations):
        """Return a live tray after a list of operations."""
        if not isinstance(operations, list):
            raise InvalidOperation(0)
        live = cls(tray)
        live.apply(*operations)
        return live

    @property
    def present_tray(self):
        """The tray as it is now."""
        _, trays, done = self._state
        return trays[done]

    @property
    def history(self):
        """The list of all operations in effect."""
        operations, _, done = self._state
        return list(operations[:done])

    def tilt(self, tilt):
        """Tilt the tray, and return the string of the marbles that move."""
        results = self.apply(("tilt", tilt))
        return results[0]

    def put(self, marble, place):
        """Put a marble into an empty cell, and return how many marbles there are then."""
        results = self.apply(("put", marble, place))
        return results[0]

    def take(self, marble):
        """Take a marble from the tray, and return its place."""
        results = self.apply(("take", marble))
        return results[0]

    def undo(self):
        """Undo the last operation in effect, and tell whether there was one."""
        operations, trays, done = self._state
        if done == 0:
            return False
        self._state = (operations, trays, done - 1)
        return True

    def redo(self):
        """Execute the operation again that was undone last, and tell whether there was one."""
        operations, trays, done = self._state
        if done == len(operations):
            return False
        self._state = (operations, trays, done + 1)
        return True

    def apply(self, *operations):
        """Execute operations, all or none, and return the list of their results."""
        for index, operation in enumerate(operations):
            if not _is_operation(operation):
                raise InvalidOperation(index)
        present = self.present_tray
        later_trays = []
        results = []
        for name, *details in operations:
            action = ACTIONS[name]
            present, result = action(present, *details)
            later_trays.append(present)
            results.append(result)
        # Without operations, those that are undone are kept for redo.
        if operations:
            self._extend_state(operations, tuple(later_trays))
        return results

    def tray_after(self, *operations):
        """Return the tray after operations, and leave the live tray as it is."""
        with self:
            self.apply(*operations)
            after = self.present_tray
        return after

    def _extend_state(self, operations, later_trays):
        """Add executed operations to those in effect, and drop those that are undone."""
        earlier, trays, done = self._state
        self._state = (earlier[:done] + operations, trays[:done + 1] + later_trays, done + len(operations))

    def __contains__(self, x):
        return x in self.present_tray

    def __len__(self):
        return len(self.present_tray.marbles)

    def __enter__(self):
        if self._state_before_block is not None:
            raise AlreadyOpen("a block of this live tray is open already")
        self._state_before_block = self._state
        return self

    def __exit__(self, kind, value, trace):
        self._state = self._state_before_block
        self._state_before_block = None


def first_log_error(tray, log):
    """Return the index of the first item of a log that is wrong, or None."""
    if not isinstance(log, list):
        return 0
    present = tray
    for index, item in enumerate(log):
        if not isinstance(item, tuple) or len(item) != 2:
            return index
        tilt, places = item
        if not is_tilt(tilt):
            return index
        present = present >> Word(tilt)
        if not _are_places_of(present, places):
            return index
    return None


def _is_operation(value):
    """Tell whether a value is a tuple of the name of a method and its arguments."""
    if not isinstance(value, tuple) or len(value) == 0:
        return False
    name = value[0]
    return isinstance(name, str) and name in SIZES and len(value) == SIZES[name]


def _are_places_of(tray, places):
    """Tell whether a value is the dict from all marbles of a tray to their places."""
    if not isinstance(places, dict) or len(places) != len(tray.marbles):
        return False
    for marble in tray.marbles:
        place = places.get(marble)
        # True and 1 are equal in Python, but True is not a number of a place.
        if not is_place(place, tray.height, tray.width) or place != tray(marble):
            return False
    return True
