"""Tests of drawings and tables (points 1 and 15)."""

import itertools
import unittest

import oracle
from tiltheap import drawings
from tiltheap.drawings import drawing, marble_table, parse_drawing
from tiltheap.errors import DrawingError, TrayError
from tiltheap.trays import Tray

LETTERS = "abcdefghijklmnopqrstuvwxyz"
GREATEST = ("abcdefgh", "ijklmnop", "qrstuvwx", "yz......", "........", "........", "........", "........")
TEXT = "+---+\n|a.b|\n|.c.|\n+---+"
SIGNS = "".join(map(chr, range(128))) + "\xe9\u0430\u2502\u2028\uff42"


def drawn(rows):
    border = "+" + "-" * len(rows[0]) + "+"
    return "\n".join([border] + ["|" + row + "|" for row in rows] + [border])


def first_wrong(text):
    """Return the row and the column of the first wrong character of a text, by the words of the document."""
    lines = text.split("\n")
    width = len(lines[0])
    if width < 3 or width > 10:
        return 0, 0
    border = "+" + "-" * (width - 2) + "+"
    seen = set()
    for number, line in enumerate(lines):
        is_border = number == 0 or number == len(lines) - 1
        if number == 1 and len(lines) < 3:
            return 1, 0
        if number == 9 and not is_border:
            return 9, 0
        for column in range(max(len(line), width)):
            sign = line[column:column + 1]
            if sign == "" or column >= width:
                return number, column
            if is_border:
                good = sign == border[column]
            elif column in (0, width - 1):
                good = sign == "|"
            else:
                good = sign == "." or (sign in LETTERS and sign not in seen)
                seen.add(sign)
            if not good:
                return number, column
    return (1, 0) if len(lines) < 3 else None


class DrawingsTest(unittest.TestCase):
    def assert_wrong(self, text, row, column):
        with self.assertRaises(DrawingError) as caught:
            parse_drawing(text)
        self.assertEqual((caught.exception.row, caught.exception.column), (row, column), repr(text))


class InterfaceTest(DrawingsTest):
    def test_example_of_a_drawing(self):
        self.assertEqual(drawing(Tray("a.", ".b")), "+--+\n|a.|\n|.b|\n+--+")

    def test_examples_of_parsing(self):
        self.assertEqual(parse_drawing("+--+\n|a.|\n+--+").rows, ("a.",))
        self.assert_wrong("+--+\n|aa|\n+--+", 1, 2)

    def test_example_of_a_table(self):
        self.assertEqual(marble_table(Tray("b.", ".a")), "a  1  1\nb  0  0")

    def test_functions_are_defined_in_the_file_itself(self):
        for name in ("drawing", "parse_drawing", "marble_table"):
            self.assertEqual(getattr(drawings, name).__module__, "tiltheap.drawings")

    def test_arguments_have_their_names(self):
        self.assertEqual(drawing(tray=Tray(".")), "+-+\n|.|\n+-+")
        self.assertEqual(parse_drawing(text="+-+\n|.|\n+-+").rows, (".",))
        self.assertEqual(marble_table(tray=Tray("a")), "a  0  0")


class DrawingTest(DrawingsTest):
    def test_drawings_of_trays(self):
        for rows in oracle.ROWS + (GREATEST,):
            tray = Tray(*rows)
            self.assertEqual(drawing(tray), drawn(rows))
            self.assertEqual(tray.rows, rows)
            self.assertEqual(drawing(tray), drawing(tray))

    def test_known_drawings(self):
        self.assertEqual(drawing(Tray("q")), "+-+\n|q|\n+-+")
        self.assertEqual(drawing(Tray("a..b.c..")), "+--------+\n|a..b.c..|\n+--------+")
        self.assertEqual(drawing(Tray(".", "z", ".")), "+-+\n|.|\n|z|\n|.|\n+-+")


class ParseTest(DrawingsTest):
    def test_drawings_lead_back_to_their_trays(self):
        for rows in oracle.ROWS + (GREATEST,):
            tray = parse_drawing(drawn(rows))
            self.assertIsInstance(tray, Tray)
            self.assertEqual(tray.rows, rows)
            self.assertEqual(parse_drawing(drawing(Tray(*rows))), Tray(*rows))

    def test_all_sizes(self):
        for height, width in itertools.product(range(1, 9), range(1, 9)):
            rows = ("." * width,) * height
            self.assertEqual(parse_drawing(drawn(rows)).rows, rows)
            rows = rows[:-1] + ("." * (width - 1) + "m",)
            self.assertEqual(parse_drawing(drawn(rows)).rows, rows)

    def test_what_is_not_a_string(self):
        for text in oracle.NOT_STRINGS + (Tray("a"), ["+-+", "|a|", "+-+"], b"+-+\n|a|\n+-+"):
            self.assert_wrong(text, 0, 0)

    def test_widths_of_the_first_line(self):
        for width in (0, 1, 2, 11, 12, 100):
            border = ("+" + "-" * 98 + "+")[:width]
            for text in (border, border + "\n|a|\n" + border, border + "\n" + border, border + "\n\n"):
                self.assert_wrong(text, 0, 0)
        self.assert_wrong("++\n||\n++", 0, 0)
        self.assert_wrong("+---------+\n|.........|\n+---------+", 0, 0)
        self.assert_wrong("", 0, 0)
        self.assert_wrong("\n+-+\n|a|\n+-+", 0, 0)

    def test_the_width_is_checked_ahead_of_the_signs(self):
        self.assert_wrong("+x", 0, 0)
        self.assert_wrong("+---x-----+", 0, 0)
        self.assert_wrong("+--------x\n|........|", 0, 9)

    def test_signs_of_the_first_line(self):
        for column, sign in ((0, "-"), (0, "|"), (1, "+"), (2, "x"), (3, "."), (4, "-"), (4, " ")):
            lines = TEXT.split("\n")
            lines[0] = lines[0][:column] + sign + lines[0][column + 1:]
            self.assert_wrong("\n".join(lines), 0, column)
        # The width is that of the first line: what is missing there is missed by the other lines.
        self.assert_wrong("+--\n|a.b|\n+---+", 0, 2)
        self.assert_wrong("+--+\n|a.b|\n+---+", 1, 3)
        self.assert_wrong("+----+\n|a.b|\n+---+", 1, 4)
        self.assert_wrong("+---+ \n|a.b|\n+---+", 0, 4)

    def test_each_character_in_turn(self):
        for at, sign in itertools.product(range(len(TEXT)), SIGNS):
            text = TEXT[:at] + sign + TEXT[at + 1:]
            wrong = first_wrong(text)
            if wrong is None:
                self.assertEqual(parse_drawing(text).rows, tuple(line[1:-1] for line in text.split("\n")[1:-1]))
            else:
                self.assert_wrong(text, *wrong)

    def test_missing_and_superfluous_characters(self):
        for at in range(len(TEXT) + 1):
            for text in (TEXT[:at], TEXT[at:], TEXT[:at] + TEXT[at + 1:]):
                if first_wrong(text) is not None:
                    self.assert_wrong(text, *first_wrong(text))
            for sign in SIGNS:
                text = TEXT[:at] + sign + TEXT[at:]
                if first_wrong(text) is not None:
                    self.assert_wrong(text, *first_wrong(text))

    def test_lines_that_are_too_short(self):
        for line, column in (("", 0), ("|", 1), ("|a", 2), ("|a.", 3), ("|a.b", 4), ("|a|", 2)):
            self.assert_wrong(f"+---+\n{line}\n|.c.|\n+---+", 1, column)
        for line, column in (("", 0), ("+", 1), ("+-", 2), ("+--", 3), ("+---", 4), ("+--+", 3)):
            self.assert_wrong(f"+---+\n|a.b|\n{line}", 2, column)

    def test_lines_that_are_too_long(self):
        for tail in ("|", ".", " ", "a", "x|", "\r", "\u0430"):
            self.assert_wrong(f"+---+\n|a.b|{tail}\n+---+", 1, 5)
            self.assert_wrong(f"+---+\n|a.b|\n+---+{tail}", 2, 5)
        self.assert_wrong("+---+\n|a.bc|\n+---+", 1, 4)
        self.assert_wrong("+---+\n|a.b|\n+----+", 2, 4)

    def test_signs_of_the_lines_between(self):
        for line, column in (
            ("+a.b|", 0), ("a.b|.", 0), (" a.b|", 0), ("|A.b|", 1), ("|a-b|", 2), ("|a b|", 2), ("|a.||", 3),
            ("|a.b+", 4), ("|a.b.", 4), ("|a.bc", 4), ("|a\u00e9b|", 2), ("|a.\uff42|", 3), ("|a0b|", 2), ("|a\tb|", 2),
        ):
            self.assert_wrong(f"+---+\n{line}\n+---+", 1, column)

    def test_repeated_marbles(self):
        self.assert_wrong("+---+\n|a.a|\n+---+", 1, 3)
        self.assert_wrong("+---+\n|a.b|\n|cda|\n+---+", 2, 3)
        self.assert_wrong("+---+\n|a.b|\n|...|\n|.b.|\n+---+", 3, 2)
        self.assert_wrong("+--+\n|ab|\n|ba|\n+--+", 2, 1)
        self.assert_wrong("+--+\n|zz|\n|x\n+--+", 1, 2)
        # A wrong sign that comes ahead of a repeated marble is the first one, and the other way round.
        self.assert_wrong("+---+\n|aAa|\n+---+", 1, 2)
        self.assert_wrong("+---+\n|aaA|\n+---+", 1, 2)

    def test_no_line_between(self):
        for text in ("+-+", "+-+\n", "+-+\n+-+", "+-+\n|a|", "+-+\nx", "+-+\n|aa|", "+--------+\n+--------+"):
            self.assert_wrong(text, 1, 0)
        self.assert_wrong("+x+", 0, 1)
        self.assert_wrong("+-x\n+-+", 0, 2)

    def test_the_ninth_line_between(self):
        eight = "+-+\n" + "|.|\n" * 8
        self.assertEqual(parse_drawing(eight + "+-+").height, 8)
        for tail in ("|.|\n+-+", "|.|\n|.|\n+-+", "+-+\n+-+", "\n", "x\ny", "|.|\n", "+-+\n"):
            self.assert_wrong(eight + tail, 9, 0)
        self.assert_wrong("+-+\n" + "|.|\n" * 1000 + "+-+", 9, 0)

    def test_what_is_wrong_ahead_of_a_ninth_line(self):
        for number, (line, column) in itertools.product(
            range(1, 9), (("|.", 2), ("x.|", 0), ("|.|.", 3), ("", 0), ("|-|", 1)),
        ):
            lines = ["+-+"] + ["|.|"] * 9 + ["+-+"]
            lines[number] = line
            self.assert_wrong("\n".join(lines), number, column)
        self.assert_wrong("+-+\n" + "|a|\n" * 9 + "+-+", 2, 1)
        self.assert_wrong("+--\n" + "|.|\n" * 9 + "+-+", 0, 2)

    def test_the_last_line_is_always_the_bottom_one(self):
        for bottom, column in (("|.|", 0), ("+.+", 1), ("+-|", 2), ("+--", 2), ("", 0), ("+-", 2), ("+-+-", 3)):
            self.assert_wrong("+-+\n|a|\n" + bottom, 2, column)
            self.assert_wrong("+-+\n" + "|.|\n" * 8 + bottom, 9, column)
        self.assert_wrong("+-+\n|a|\n+-+\n", 2, 0)
        self.assert_wrong("+-+\n|a|\n+-+\n+-+", 2, 0)
        self.assert_wrong("+-+\n|a|\n|.|\n", 3, 0)
        self.assert_wrong("+-+\n|a|\n|.|", 2, 0)
        # A letter at the bottom is wrong, also where it would be a new marble.
        self.assert_wrong("+-+\n|a|\n+b+", 2, 1)

    def test_lines_are_separated_by_line_feeds_alone(self):
        self.assert_wrong("+--+\r\n|a.|\r\n+--+", 0, 3)
        self.assert_wrong("+--+\n|a.|\r\n+--+", 1, 4)
        self.assert_wrong("+-+\r|a|\r+-+", 0, 0)
        self.assert_wrong("+-+\x0b|a|\x0b+-+", 0, 0)
        self.assert_wrong("+-+\n|a|\u2028+-+", 1, 0)

    def test_errors_are_those_of_the_package(self):
        with self.assertRaises(TrayError):
            parse_drawing("")


class TableTest(DrawingsTest):
    def test_tables(self):
        for rows in oracle.ROWS + (GREATEST,):
            lines = []
            for marble, (row, column) in sorted(oracle.places(rows).items()):
                lines.append(marble + " " + str(row).rjust(2) + " " + str(column).rjust(2))
            self.assertEqual(marble_table(Tray(*rows)), "\n".join(lines))

    def test_known_tables(self):
        self.assertEqual(marble_table(Tray(".")), "")
        self.assertEqual(marble_table(Tray("..", "..")), "")
        self.assertEqual(marble_table(Tray(".z")), "z  0  1")
        self.assertEqual(marble_table(Tray("m.......", "........", ".......a")), "a  2  7\nm  0  0")
        self.assertEqual(marble_table(Tray(*GREATEST)).split("\n")[-2:], ["y  3  0", "z  3  1"])


if __name__ == "__main__":
    unittest.main()
