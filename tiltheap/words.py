"""Words of tilts."""

from tiltheap.checks import is_number
from tiltheap.errors import InvalidNumber, InvalidWord

ALONG_ROWS = "lr"
ALONG_COLUMNS = "ud"
OPPOSITES = {"l": "r", "r": "l", "u": "d", "d": "u"}
MAX_TIMES = 60


def is_tilt(value):
    """Tell whether a value is a letter for a tilt."""
    # Without the length, the empty string and strings like "lr" would count, too.
    return isinstance(value, str) and len(value) == 1 and value in ALONG_ROWS + ALONG_COLUMNS


class Word:
    """A word of tilts, which never changes."""

    MAX_TILTS = 60

    def __init__(self, text):
        wrong = _first_wrong_index(text)
        if wrong is not None:
            raise InvalidWord(wrong)
        self._text = text

    @property
    def text(self):
        """The string of the tilts."""
        return self._text

    @property
    def corner(self):
        """The last tilt along columns and the last one along rows, or None."""
        column_tilt = _last_along(self._text, ALONG_COLUMNS)
        row_tilt = _last_along(self._text, ALONG_ROWS)
        if column_tilt is None or row_tilt is None:
            return None
        return column_tilt + row_tilt

    @property
    def is_short(self):
        """Whether the word has no needless tilts."""
        return _without_needless(self._text) == self._text

    def short(self):
        """Return the word without needless tilts."""
        return Word(_without_needless(self._text))

    def __len__(self):
        return len(self._text)

    def __getitem__(self, at):
        if not is_number(at, len(self._text) - 1):
            raise InvalidNumber("no tilt of the word has this index")
        return self._text[at]

    def __iter__(self):
        raise TypeError("words cannot be walked in loops")

    def __contains__(self, x):
        return is_tilt(x) and x in self._text

    def __add__(self, other):
        if not isinstance(other, Word):
            raise InvalidWord(0)
        return Word(self._text + other._text)

    def __mul__(self, other):
        if not is_number(other, MAX_TIMES):
            raise InvalidNumber("a word is repeated from 0 to 60 times")
        return Word(self._text * other)

    def __neg__(self):
        return Word("".join([OPPOSITES[tilt] for tilt in self._text]))

    def __eq__(self, other):
        return isinstance(other, Word) and self._text == other._text


def _first_wrong_index(text):
    """Return the index that InvalidWord reports for a text, or None."""
    if not isinstance(text, str):
        return 0
    for index, letter in enumerate(text):
        if index >= Word.MAX_TILTS or not is_tilt(letter):
            return index
    return None


def _last_along(text, axis):
    """Return the last tilt of a text along an axis, or None."""
    found = [tilt for tilt in text if tilt in axis]
    return found[-1] if found else None


def _without_needless(text):
    """Return the tilts of a text without the needless ones."""
    kept = []
    for tilt in text:
        if kept and (kept[-1] in ALONG_ROWS) == (tilt in ALONG_ROWS):
            kept.pop()
        # The kept tilts take turns, so the last one along the axis of this tilt
        # is the last but one.
        if len(kept) < 2 or kept[-2] != tilt:
            kept.append(tilt)
    return "".join(kept)
