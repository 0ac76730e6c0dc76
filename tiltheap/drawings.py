"""Trays as drawings and tables."""

from tiltheap.errors import DrawingError
from tiltheap.trays import EMPTY, LETTERS, MAX_SIDE, Tray


def drawing(tray):
    """Return the drawing of a tray."""
    border = _border(tray.width)
    lines = [f"|{row}|" for row in tray.rows]
    return "\n".join([border, *lines, border])


def parse_drawing(text):
    """Return the tray of a drawing."""
    if not isinstance(text, str):
        raise DrawingError(0, 0)
    lines = text.split("\n")
    width = len(lines[0]) - 2
    if not 1 <= width <= MAX_SIDE:
        raise DrawingError(0, 0)
    border = list(_border(width))
    between = ["|"] + [EMPTY + LETTERS] * width + ["|"]
    last = len(lines) - 1
    _check_line(lines, 0, border)
    if last < 2:
        raise DrawingError(1, 0)
    for number in range(1, last):
        if number > MAX_SIDE:
            raise DrawingError(number, 0)
        _check_line(lines, number, between)
    _check_line(lines, last, border)
    rows = [line[1:-1] for line in lines[1:last]]
    return Tray(*rows)


def marble_table(tray):
    """Return a text with a line for each marble: the marble, its row and its column."""
    lines = []
    for marble in tray.marbles:
        row, column = tray(marble)
        lines.append(f"{marble} {row:>2} {column:>2}")
    return "\n".join(lines)


def _border(width):
    """Return the first and the last line of the drawing of a tray with so many columns."""
    return "+" + "-" * width + "+"


def _check_line(lines, number, allowed):
    """Raise DrawingError unless a line has, one by one, a sign of each of the strings allowed."""
    line = lines[number]
    ahead = "".join(lines[:number])
    for column, signs in enumerate(allowed):
        if column >= len(line) or line[column] not in signs:
            raise DrawingError(number, column)
        # Only marbles are letters, so a letter that stands ahead is a marble already.
        if line[column] in LETTERS and line[column] in ahead + line[:column]:
            raise DrawingError(number, column)
    if len(line) > len(allowed):
        raise DrawingError(number, len(allowed))
