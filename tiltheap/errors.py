"""The exceptions of the package."""


class TrayError(ValueError):
    """The base class of all exceptions of the package."""


class InvalidWord(TrayError):
    """A text is not a word of tilts; `index` tells the character."""

    def __init__(self, index):
        super().__init__(f"not a word of tilts, at index {index}")
        self.index = index


class InvalidTray(TrayError):
    """Rows are not those of a tray; `row` and `column` tell the cell."""

    def __init__(self, row, column):
        super().__init__(f"not a tray, at row {row}, column {column}")
        self.row = row
        self.column = column


# A marble that an error reports may be any value, also one that cannot be shown as text.
class UnknownMarble(TrayError):
    """There is no such marble on the tray; `marble` is what was asked for."""

    def __init__(self, marble):
        super().__init__("no such marble on the tray")
        self.marble = marble


class InvalidPlace(TrayError):
    """A place does not exist, or cannot be used."""


class InvalidNumber(TrayError):
    """An argument is not a number, or not one within its limits."""


class SameMarble(TrayError):
    """Two marbles are the same one."""


class AlreadyOpen(TrayError):
    """A live tray's block is entered within another one of it."""


class InvalidTilt(TrayError):
    """A tilt is not one of the four letters."""


class InvalidMarble(TrayError):
    """A marble cannot be put on the tray; `marble` is what was given."""

    def __init__(self, marble):
        super().__init__("not a marble that can be put on the tray")
        self.marble = marble


class InvalidOperation(TrayError):
    """An argument is not an operation; `index` tells which one."""

    def __init__(self, index):
        super().__init__(f"not an operation, at index {index}")
        self.index = index


class Contradiction(TrayError):
    """No word would remain possible after an observation."""


class DrawingError(TrayError):
    """A text is not a drawing; `row` and `column` tell the character."""

    def __init__(self, row, column):
        super().__init__(f"not a drawing, at row {row}, column {column}")
        self.row = row
        self.column = column


class InvalidCount(TrayError):
    """An argument is not a list of the values of bytes."""


class DecodeError(TrayError):
    """Bytes are not those of a tray; `offset` tells the byte."""

    def __init__(self, offset):
        super().__init__(f"not the bytes of a tray, at offset {offset}")
        self.offset = offset
