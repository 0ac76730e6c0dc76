"""Trays with marbles."""

from tiltheap.checks import check_place
from tiltheap.errors import InvalidTray, UnknownMarble
from tiltheap.words import ALONG_ROWS, Word

EMPTY = "."
LETTERS = "abcdefghijklmnopqrstuvwxyz"
MAX_SIDE = 8


class Tray:
    """A tray with marbles, which never changes."""

    def __init__(self, *rows):
        wrong = _first_wrong_cell(rows)
        if wrong is not None:
            row, column = wrong
            raise InvalidTray(row, column)
        self._rows = rows

    @classmethod
    def of_text(cls, text):
        """Return the tray of rows that are separated by line feeds."""
        if not isinstance(text, str):
            raise InvalidTray(0, 0)
        rows = text.split("\n")
        return cls(*rows)

    @property
    def rows(self):
        """The tuple of the rows."""
        return self._rows

    @property
    def marbles(self):
        """The string of all marbles in ascending order."""
        return "".join(sorted([cell for row in self._rows for cell in row if cell != EMPTY]))

    @property
    def height(self):
        """The number of rows."""
        return len(self._rows)

    @property
    def width(self):
        """The number of columns."""
        return len(self._rows[0])

    def at(self, place):
        """Return the marble at a place, or None."""
        check_place(self, place)
        row, column = place
        cell = self._rows[row][column]
        return None if cell == EMPTY else cell

    def __call__(self, marble):
        if marble not in self:
            raise UnknownMarble(marble)
        cells = "".join(self._rows)
        return divmod(cells.index(marble), self.width)

    def __contains__(self, x):
        # Without the length, the empty string and strings like "ab" would count, too.
        return isinstance(x, str) and len(x) == 1 and x in self.marbles

    def __rshift__(self, other):
        if not isinstance(other, Word):
            return NotImplemented
        rows = self._rows
        for tilt in other.text:
            rows = _tilted(rows, tilt)
        return Tray(*rows)

    def __eq__(self, other):
        return isinstance(other, Tray) and self._rows == other._rows


def _first_wrong_cell(rows):
    """Return the row and the column that InvalidTray reports for rows, or None."""
    if not rows:
        return 0, 0
    seen = set()
    for number, row in enumerate(rows):
        # The first row is looked at before the others, so its length is at hand.
        if number >= MAX_SIDE or not _is_row(row) or len(row) != len(rows[0]):
            return number, 0
        for column, cell in enumerate(row):
            if cell in seen or cell not in EMPTY + LETTERS:
                return number, column
            if cell != EMPTY:
                seen.add(cell)
    return None


def _is_row(row):
    """Tell whether a value is a string that is as long as a row may be."""
    return isinstance(row, str) and 1 <= len(row) <= MAX_SIDE


def _tilted(rows, tilt):
    """Return the tuple of the rows after a tilt."""
    if tilt in ALONG_ROWS:
        return tuple([_slid(row, tilt == "l") for row in rows])
    columns = [_slid("".join(column), tilt == "u") for column in zip(*rows)]
    return tuple(["".join(row) for row in zip(*columns)])


def _slid(line, to_beginning):
    """Return a row or a column after its marbles have slid to one of its ends."""
    marbles = line.replace(EMPTY, "")
    if to_beginning:
        return marbles.ljust(len(line), EMPTY)
    return marbles.rjust(len(line), EMPTY)
