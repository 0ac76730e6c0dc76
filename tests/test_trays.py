"""Tests of trays (points 1, 4 and 5)."""

import itertools
import unittest

from tiltheap.errors import InvalidPlace, InvalidTray, UnknownMarble
from tiltheap.trays import Tray
from tiltheap.words import Word

ALPHABET = "abcdefghijklmnopqrstuvwxyz"
NOT_STRINGS = (None, True, False, 0, 1, -1, 10 ** 30, 1.5, (), ("a",), [], ["a", "."], b"a.", {"a": 1})
STEPS = {"l": (0, -1), "r": (0, 1), "u": (-1, 0), "d": (1, 0)}


def slide_by_steps(rows, tilt):
    """Move single marbles by single steps until none can move."""
    cells = [list(row) for row in rows]
    down, right = STEPS[tilt]
    moved = True
    while moved:
        moved = False
        for row, column in itertools.product(range(len(cells)), range(len(cells[0]))):
            to_row, to_column = row + down, column + right
            if not (0 <= to_row < len(cells) and 0 <= to_column < len(cells[0])):
                continue
            if cells[row][column] != "." and cells[to_row][to_column] == ".":
                cells[to_row][to_column] = cells[row][column]
                cells[row][column] = "."
                moved = True
    return tuple("".join(row) for row in cells)


def raised_cell(make, *arguments):
    try:
        make(*arguments)
    except InvalidTray as error:
        return error.row, error.column
    return None


def example():
    return Tray("a.b", ".c.", "d..")


class InterfaceTest(unittest.TestCase):
    def test_example_of_trays(self):
        tray = example()
        self.assertEqual(
            [(tray >> Word("lu")).rows, tray("c"), "e" in tray, tray.at((0, 1)), tray.marbles],
            [("ab.", "c..", "d.."), (1, 1), False, None, "abcd"],
        )

    def test_example_of_an_invalid_tray(self):
        with self.assertRaises(InvalidTray) as caught:
            Tray("a.", "ba")
        self.assertEqual((caught.exception.row, caught.exception.column), (1, 1))

    def test_example_of_an_unknown_marble(self):
        with self.assertRaises(UnknownMarble) as caught:
            example()("e")
        self.assertEqual(caught.exception.marble, "e")

    def test_all_that_is_listed_is_defined_in_the_class(self):
        self.assertEqual(Tray.__module__, "tiltheap.trays")
        for name in ("rows", "marbles", "height", "width"):
            self.assertIsInstance(vars(Tray)[name], property)
        self.assertIsInstance(vars(Tray)["of_text"], classmethod)
        for name in ("__init__", "__rshift__", "__call__", "__contains__", "__eq__", "at"):
            self.assertIn(name, vars(Tray))

    def test_arguments_have_their_names(self):
        self.assertEqual(Tray.of_text(text="a.").rows, ("a.",))
        self.assertEqual(Tray("a.").at(place=(0, 0)), "a")


class MakingTest(unittest.TestCase):
    def test_properties(self):
        tray = Tray("z..b", ".a..")
        self.assertEqual(tray.rows, ("z..b", ".a.."))
        self.assertIsInstance(tray.rows, tuple)
        self.assertEqual(tray.marbles, "abz")
        self.assertEqual((tray.height, tray.width), (2, 4))

    def test_one_cell(self):
        self.assertEqual(Tray(".").marbles, "")
        self.assertEqual(Tray(".").rows, (".",))
        tray = Tray("q")
        self.assertEqual((tray.rows, tray.marbles, tray.height, tray.width), (("q",), "q", 1, 1))

    def test_eight_rows_and_columns(self):
        rows = ["........"] * 4 + [ALPHABET[:8], ALPHABET[8:16], ALPHABET[16:24], "yz......"]
        tray = Tray(*rows)
        self.assertEqual((tray.rows, tray.marbles), (tuple(rows), ALPHABET))
        self.assertEqual((tray.height, tray.width), (8, 8))

    def test_all_sizes(self):
        for height, width in itertools.product(range(1, 9), range(1, 9)):
            tray = Tray(*["." * width] * height)
            self.assertEqual((tray.height, tray.width, tray.marbles), (height, width, ""))

    def test_no_rows(self):
        self.assertEqual(raised_cell(Tray), (0, 0))

    def test_a_ninth_row(self):
        for many in (9, 10, 30):
            self.assertEqual(raised_cell(Tray, *["."] * many), (8, 0))
        self.assertEqual(raised_cell(Tray, *["."] * 8, "A"), (8, 0))
        self.assertEqual(raised_cell(Tray, *[".."] * 8, ".A"), (8, 0))
        self.assertEqual(raised_cell(Tray, *["."] * 8, None), (8, 0))

    def test_a_fault_ahead_of_a_ninth_row(self):
        self.assertEqual(raised_cell(Tray, *[".."] * 7, ".A", ".."), (7, 1))
        self.assertEqual(raised_cell(Tray, "..", "...", *[".."] * 7), (1, 0))

    def test_rows_without_cells_or_with_too_many(self):
        self.assertEqual(raised_cell(Tray, ""), (0, 0))
        self.assertEqual(raised_cell(Tray, "", ""), (0, 0))
        self.assertEqual(raised_cell(Tray, "a", ""), (1, 0))
        self.assertEqual(raised_cell(Tray, "........."), (0, 0))
        self.assertEqual(raised_cell(Tray, ".A......."), (0, 0))
        self.assertEqual(raised_cell(Tray, "........", "........."), (1, 0))

    def test_rows_of_another_length(self):
        self.assertEqual(raised_cell(Tray, "..", "..."), (1, 0))
        self.assertEqual(raised_cell(Tray, "...", ".."), (1, 0))
        self.assertEqual(raised_cell(Tray, "..", "..", "."), (2, 0))

    def test_a_row_of_another_length_is_reported_ahead_of_its_cells(self):
        self.assertEqual(raised_cell(Tray, "a.", ".A."), (1, 0))
        self.assertEqual(raised_cell(Tray, "a.", "bba"), (1, 0))

    def test_rows_that_are_not_strings(self):
        for value in NOT_STRINGS + (example(), Word("l")):
            with self.subTest(value=value):
                self.assertEqual(raised_cell(Tray, value), (0, 0))
                self.assertEqual(raised_cell(Tray, value, value), (0, 0))
                self.assertEqual(raised_cell(Tray, "a.", ".b", value), (2, 0))
                self.assertEqual(raised_cell(Tray, "a.", value, ".A"), (1, 0))

    def test_invalid_cells(self):
        for cell in ("A", "Z", "`", "{", " ", "-", "0", "\n", "\r", "\0", "\u00e9", "\u0430", "\uff41", "\u2024"):
            with self.subTest(cell=cell):
                self.assertEqual(raised_cell(Tray, cell), (0, 0))
                self.assertEqual(raised_cell(Tray, "a.", "." + cell), (1, 1))

    def test_repeated_marbles(self):
        self.assertEqual(raised_cell(Tray, "aa"), (0, 1))
        self.assertEqual(raised_cell(Tray, "a.a"), (0, 2))
        self.assertEqual(raised_cell(Tray, "a", "b", "a"), (2, 0))
        self.assertEqual(raised_cell(Tray, ".ab", "c.b", "a.."), (1, 2))

    def test_the_first_fault_is_reported(self):
        self.assertEqual(raised_cell(Tray, ".AB", "C.."), (0, 1))
        self.assertEqual(raised_cell(Tray, "aaB"), (0, 1))
        self.assertEqual(raised_cell(Tray, "aBa"), (0, 1))
        self.assertEqual(raised_cell(Tray, "a.", ".A", "..."), (1, 1))
        self.assertEqual(raised_cell(Tray, "a.", ".A", None), (1, 1))
        self.assertEqual(raised_cell(Tray, "a.", "...", ".A"), (1, 0))
        self.assertEqual(raised_cell(Tray, "a.", None, "..."), (1, 0))
        self.assertEqual(raised_cell(Tray, "a.", "b.", ".b", None), (2, 1))

    def test_arguments_are_not_kept(self):
        rows = ["a.", ".b"]
        tray = Tray(*rows)
        rows[0] = ".."
        rows.clear()
        self.assertEqual(tray.rows, ("a.", ".b"))

    def test_trays_cannot_be_assigned_to(self):
        tray = example()
        for name, value in (("rows", ("x",)), ("marbles", "x"), ("height", 1), ("width", 1)):
            with self.assertRaises(AttributeError):
                setattr(tray, name, value)
        self.assertEqual(tray.rows, ("a.b", ".c.", "d.."))


class OfTextTest(unittest.TestCase):
    def test_rows_are_separated_by_line_feeds(self):
        tray = Tray.of_text("a.b\n.c.\nd..")
        self.assertIsInstance(tray, Tray)
        self.assertEqual(tray.rows, ("a.b", ".c.", "d.."))
        self.assertEqual(Tray.of_text(".").rows, (".",))

    def test_faults_are_those_of_the_rows(self):
        self.assertEqual(raised_cell(Tray.of_text, ""), (0, 0))
        self.assertEqual(raised_cell(Tray.of_text, "\n"), (0, 0))
        self.assertEqual(raised_cell(Tray.of_text, "a.\n"), (1, 0))
        self.assertEqual(raised_cell(Tray.of_text, "\na."), (0, 0))
        self.assertEqual(raised_cell(Tray.of_text, "a.\n\n.b"), (1, 0))
        self.assertEqual(raised_cell(Tray.of_text, "a.\nba"), (1, 1))
        self.assertEqual(raised_cell(Tray.of_text, "a.\n..."), (1, 0))
        self.assertEqual(raised_cell(Tray.of_text, "\n".join(["."] * 9)), (8, 0))

    def test_only_line_feeds_separate(self):
        self.assertEqual(raised_cell(Tray.of_text, "a.\r\n.b"), (0, 2))
        self.assertEqual(raised_cell(Tray.of_text, "a.\r.b"), (0, 2))
        self.assertEqual(raised_cell(Tray.of_text, "a.\f.b"), (0, 2))

    def test_what_is_not_a_string(self):
        for value in NOT_STRINGS + (["a.", ".b"], ("a.", ".b"), example()):
            with self.subTest(value=value):
                self.assertEqual(raised_cell(Tray.of_text, value), (0, 0))


class TiltTest(unittest.TestCase):
    def test_each_tilt(self):
        tray = Tray("a.b.", ".c.d", "....", "e...")
        for tilt, rows in (
            ("l", ("ab..", "cd..", "....", "e...")),
            ("r", ("..ab", "..cd", "....", "...e")),
            ("u", ("acbd", "e...", "....", "....")),
            ("d", ("....", "....", "a...", "ecbd")),
        ):
            with self.subTest(tilt=tilt):
                self.assertEqual((tray >> Word(tilt)).rows, rows)

    def test_no_tilts(self):
        self.assertEqual((example() >> Word("")).rows, example().rows)

    def test_tilts_one_after_another(self):
        tray = Tray("a.b", ".c.", "d..")
        rows = tray.rows
        for tilt in "lurdruldd":
            rows = slide_by_steps(rows, tilt)
        self.assertEqual((tray >> Word("lurdruldd")).rows, rows)
        self.assertEqual((tray >> Word("lu") >> Word("rd")).rows, (tray >> Word("lurd")).rows)

    def test_against_single_steps(self):
        trays = (
            Tray("a"), Tray("."), Tray("..a.b"), Tray(".", "a", ".", "b"), Tray("ab", "cd"),
            Tray("a.b", ".c.", "d.."), Tray("....", "z.a.", ".m.."), example(),
            Tray("a......b", "........", "..c.d...", ".......e", "f.......", "...g....", "h.i.j.k.", "l......m"),
        )
        for tray in trays:
            for tilts in itertools.product("lrud", repeat=3):
                rows = tray.rows
                for tilt in tilts:
                    rows = slide_by_steps(rows, tilt)
                self.assertEqual((tray >> Word("".join(tilts))).rows, rows)

    def test_longest_word(self):
        tray = Tray("ab.", "c..", "d..")
        self.assertEqual((tray >> Word("rdlu" * 15)).rows, tray.rows)
        self.assertNotEqual((tray >> Word("rdlu" * 14)).rows, tray.rows)

    def test_a_tilt_returns_a_tray_and_leaves_the_other_one(self):
        tray, word = example(), Word("lu")
        self.assertIsInstance(tray >> word, Tray)
        self.assertEqual(tray.rows, ("a.b", ".c.", "d.."))
        self.assertEqual(word.text, "lu")
        self.assertEqual(tray >> word, tray >> word)

    def test_what_is_not_a_word(self):
        for value in NOT_STRINGS + ("", "l", "lu", example()):
            with self.subTest(value=value):
                with self.assertRaises(TypeError):
                    example() >> value


class MarbleTest(unittest.TestCase):
    def test_places(self):
        tray = Tray("a.b.", ".c.z")
        places = {marble: tray(marble) for marble in "abcz"}
        self.assertEqual(places, {"a": (0, 0), "b": (0, 2), "c": (1, 1), "z": (1, 3)})
        self.assertIsInstance(tray("a"), tuple)
        self.assertEqual(Tray(".", ".", "q")("q"), (2, 0))
        self.assertEqual(Tray("..q")("q"), (0, 2))

    def test_marbles_that_are_not_there(self):
        endless = []
        endless.append(endless)
        for value in NOT_STRINGS + ("e", "", ".", "ab", "a.b", "A", "\n", 10 ** 5000, endless, Word("l")):
            with self.assertRaises(UnknownMarble) as caught:
                example()(value)
            self.assertIs(caught.exception.marble, value)

    def test_an_empty_tray(self):
        with self.assertRaises(UnknownMarble) as caught:
            Tray("..")("a")
        self.assertEqual(caught.exception.marble, "a")

    def test_in(self):
        found = [marble for marble in ALPHABET if marble in example()]
        self.assertEqual(found, ["a", "b", "c", "d"])
        self.assertIs(example().__contains__("a"), True)
        self.assertIs(example().__contains__("e"), False)

    def test_in_is_false_for_anything_else(self):
        tray = Tray("ab.", "c..")
        for value in NOT_STRINGS + ("", ".", "ab", "abc", "ab.", "A", ["a"], (0, 0), Tray("a"), Word("l")):
            with self.subTest(value=value):
                self.assertIs(tray.__contains__(value), False)
                self.assertFalse(value in tray)


class AtTest(unittest.TestCase):
    def test_all_places(self):
        tray = Tray("a.b", ".cd")
        found = [[tray.at((row, column)) for column in range(3)] for row in range(2)]
        self.assertEqual(found, [["a", None, "b"], [None, "c", "d"]])

    def test_places_that_do_not_exist(self):
        for place in ((2, 0), (0, 3), (-1, 0), (0, -1), (2, 3), (10 ** 30, 0), (0, 10 ** 30), (1, -3)):
            with self.subTest(place=place):
                with self.assertRaises(InvalidPlace):
                    Tray("a.b", ".cd").at(place)

    def test_rows_and_columns_are_not_exchanged(self):
        self.assertIsNone(Tray("..", "..", "a.").at((2, 1)))
        with self.assertRaises(InvalidPlace):
            Tray("..", "..", "a.").at((1, 2))

    def test_what_is_not_a_place(self):
        others = ("", "a", "00", (0,), (0, 0, 0), [0, 0], ("0", "0"), (0, None), (None, 0),
                  (False, 0), (0, True), (0, 0.0), ((0, 0), 0), ([0], [0]), example())
        for place in NOT_STRINGS + others:
            with self.subTest(place=place):
                with self.assertRaises(InvalidPlace):
                    example().at(place)


class EqualityTest(unittest.TestCase):
    def test_equal_rows(self):
        self.assertTrue(Tray("a.", ".b") == Tray("a.", ".b"))
        self.assertFalse(Tray("a.", ".b") != Tray("a.", ".b"))
        self.assertTrue(Tray.of_text("a.\n.b") == Tray("a.", ".b"))

    def test_other_rows(self):
        for rows in (("a.", "b."), ("a.",), ("a.", ".b", ".."), ("a..", ".b."), (".b", "a."), ("b.", ".a")):
            with self.subTest(rows=rows):
                self.assertFalse(Tray("a.", ".b") == Tray(*rows))
                self.assertTrue(Tray("a.", ".b") != Tray(*rows))

    def test_what_is_not_a_tray(self):
        for value in NOT_STRINGS + ("a.", ("a.", ".b"), ["a.", ".b"], "a.\n.b", Word("l")):
            with self.subTest(value=value):
                self.assertIs(Tray("a.", ".b") == value, False)
                self.assertIs(value == Tray("a.", ".b"), False)
                self.assertIs(Tray("a.", ".b") != value, True)


class StateTest(unittest.TestCase):
    def test_errors_change_no_state(self):
        tray = example()
        for call, error in ((lambda: tray("e"), UnknownMarble), (lambda: tray.at((3, 3)), InvalidPlace),
                            (lambda: tray >> "l", TypeError)):
            with self.assertRaises(error):
                call()
            self.assertEqual(tray.rows, ("a.b", ".c.", "d.."))

    def test_repeated_calls_return_equal_values(self):
        tray = example()
        for _ in range(2):
            self.assertEqual(
                [tray.rows, tray.marbles, tray.height, tray.width, tray("c"), tray.at((1, 1)), "c" in tray],
                [("a.b", ".c.", "d.."), "abcd", 3, 3, (1, 1), "c", True],
            )

    def test_wrong_arguments_are_not_modified(self):
        row, place, marble = ["a", "."], [0, 0], ["a"]
        raised_cell(Tray, row)
        raised_cell(Tray.of_text, row)
        with self.assertRaises(InvalidPlace):
            example().at(place)
        with self.assertRaises(UnknownMarble):
            example()(marble)
        self.assertEqual([row, place, marble], [["a", "."], [0, 0], ["a"]])


if __name__ == "__main__":
    unittest.main()
