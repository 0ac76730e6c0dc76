"""Tests of the fewest tilts (points 1 and 9)."""

import itertools
import unittest

import oracle
from tiltheap import fewest
from tiltheap.errors import InvalidNumber, InvalidPlace, SameMarble, UnknownMarble
from tiltheap.fewest import fewest_to_meet, fewest_to_place, fewest_to_tray, places_within, trays_behind
from tiltheap.rounds import after_rounds
from tiltheap.trays import Tray
from tiltheap.words import Word

# "rdlu" brings all marbles back after 462 rounds only.
LONGEST = ("abcdefgh", "ijklmn..", "opqr....", "stu.....", "vw......", "x.......", "y.......", "........")
ROWS = oracle.ROWS + (("a......b", "........", "..c.d...", ".......e", "f......."), ("abcd", "efg.", "...."))


def first_way(ways, is_goal):
    """Return the first of the shortest strings to rows that are a goal, or None."""
    found = [way for rows, way in ways.items() if is_goal(rows)]
    return min(found, key=lambda way: (len(way), way)) if found else None


def side_by_side(one, other):
    return sorted([abs(one[0] - other[0]), abs(one[1] - other[1])]) == [0, 1]


class InterfaceTest(unittest.TestCase):
    def test_example_of_fewest_tilts(self):
        tray = Tray("a.b", ".c.", "d..")
        self.assertEqual(
            [fewest_to_place(tray, "c", (1, 0)), fewest_to_place(tray, "c", (0, 0)), fewest_to_place(tray, "d", (0, 0)),
             fewest_to_meet(tray, "a", "b"), fewest_to_tray(tray, tray >> Word("ul"))],
            ["l", None, "dru", "l", "u"],
        )

    def test_example_of_the_same_marble(self):
        with self.assertRaises(SameMarble):
            fewest_to_meet(Tray("a.b", ".c.", "d.."), "a", "a")

    def test_example_of_places_and_trays(self):
        tray = Tray("a.b", ".c.", "d..")
        self.assertEqual(
            [places_within(tray, "c", 1), [other.rows for other in trays_behind(tray, "l", 2)]],
            [[(0, 1), (1, 0), (1, 1), (1, 2), (2, 1)], [("ab.", "c..", "d.."), ("ab.", "c..", "d..")]],
        )

    def test_functions_are_defined_in_the_file_itself(self):
        for name in ("fewest_to_place", "fewest_to_meet", "fewest_to_tray", "places_within", "trays_behind"):
            self.assertEqual(getattr(fewest, name).__module__, "tiltheap.fewest")

    def test_arguments_have_their_names(self):
        tray = Tray("a.b")
        self.assertEqual(fewest_to_place(tray=tray, marble="a", place=(0, 1)), "r")
        self.assertEqual(fewest_to_meet(tray=tray, one="a", other="b"), "l")
        self.assertEqual(fewest_to_tray(tray=tray, goal=Tray("ab.")), "l")
        self.assertEqual(places_within(tray=tray, marble="a", most=0), [(0, 0)])
        self.assertEqual([other.rows for other in trays_behind(tray=tray, first="r", count=1)], [(".ab",)])


class FewestTest(unittest.TestCase):
    def test_all_places(self):
        for rows in ROWS:
            tray, ways = Tray(*rows), oracle.shortest_ways(rows)
            for marble, row, column in itertools.product(tray.marbles, range(tray.height), range(tray.width)):
                expected = first_way(ways, lambda reached: reached[row][column] == marble)
                self.assertEqual(fewest_to_place(tray, marble, (row, column)), expected, (rows, marble, row, column))

    def test_all_pairs(self):
        for rows in ROWS:
            tray, ways = Tray(*rows), oracle.shortest_ways(rows)
            for one, other in itertools.permutations(tray.marbles, 2):
                expected = first_way(ways, lambda reached: side_by_side(
                    oracle.places(reached)[one], oracle.places(reached)[other]))
                self.assertEqual(fewest_to_meet(tray, one, other), expected, (rows, one, other))

    def test_all_trays(self):
        for rows in ROWS:
            tray = Tray(*rows)
            for reached, way in oracle.shortest_ways(rows).items():
                self.assertEqual(fewest_to_tray(tray, Tray(*reached)), way, (rows, reached))

    def test_no_tilt_is_needed(self):
        tray = Tray("ab", "c.")
        self.assertEqual(fewest_to_place(tray, "c", (1, 0)), "")
        self.assertEqual(fewest_to_meet(tray, "a", "b"), "")
        self.assertEqual(fewest_to_meet(tray, "c", "a"), "")
        self.assertEqual(fewest_to_tray(tray, Tray("ab", "c.")), "")
        self.assertEqual(fewest_to_tray(Tray("."), Tray(".")), "")

    def test_the_first_one_in_the_alphabet(self):
        self.assertEqual(fewest_to_place(Tray("...", ".a.", "..."), "a", (2, 2)), "dr")
        self.assertEqual(fewest_to_place(Tray("...", ".a.", "..."), "a", (0, 0)), "lu")
        self.assertEqual(fewest_to_meet(Tray("a..", "...", "..b"), "a", "b"), "dl")
        self.assertEqual(fewest_to_tray(Tray("...", ".a.", "..."), Tray("..a", "...", "...")), "ru")

    def test_diagonal_neighbours_do_not_lie_side_by_side(self):
        self.assertEqual(fewest_to_meet(Tray("a.", ".b"), "a", "b"), "d")
        self.assertIsNone(fewest_to_meet(Tray("ac", "db"), "a", "b"))
        self.assertEqual(fewest_to_meet(Tray("acb"), "a", "c"), "")
        self.assertIsNone(fewest_to_meet(Tray("acb"), "a", "b"))
        self.assertEqual(fewest_to_meet(Tray("a..", "..b"), "a", "b"), "l")

    def test_none_if_there_is_no_way(self):
        self.assertIsNone(fewest_to_place(Tray("ab"), "a", (0, 1)))
        self.assertIsNone(fewest_to_tray(Tray("ab"), Tray("ba")))
        self.assertIsNone(fewest_to_tray(Tray("ab", ".."), Tray("a.", "b.")))
        self.assertIsNone(fewest_to_tray(Tray("a."), Tray("b.")))
        self.assertIsNone(fewest_to_tray(Tray("a."), Tray("a.", "..")))
        self.assertIsNone(fewest_to_tray(Tray("a."), Tray("a")))
        self.assertIsNone(fewest_to_tray(Tray(*LONGEST), Tray("a.", "..")))

    def test_more_than_sixty_letters(self):
        tray = Tray(*LONGEST)
        for times, length in ((16, 64), (231, 924), (446, 64)):
            goal = after_rounds(tray, Word("rdlu"), times)
            way = fewest_to_tray(tray, goal)
            self.assertEqual(len(way), length)
            self.assertEqual(oracle.after(LONGEST, way), goal.rows)
        self.assertEqual(fewest_to_tray(tray, after_rounds(tray, Word("rdlu"), 231)), "drul" * 231)
        goal = after_rounds(tray, Word("rdlu"), 16)
        self.assertEqual(fewest_to_tray(tray, goal), oracle.shortest_ways(LONGEST)[goal.rows])

    def test_what_follows_is_a_string(self):
        self.assertIsInstance(fewest_to_place(Tray("a."), "a", (0, 1)), str)
        self.assertEqual(fewest_to_place(Tray("a."), "a", (0, 1)), "r")


class WrongArgumentsTest(unittest.TestCase):
    def setUp(self):
        self.tray = Tray("a.b", ".c.", "d..")

    def assert_unknown(self, marble, call, *arguments):
        with self.assertRaises(UnknownMarble) as caught:
            call(*arguments)
        self.assertIs(caught.exception.marble, marble)

    def test_unknown_marbles(self):
        for marble in oracle.NOT_MARBLES + ("e", "z"):
            self.assert_unknown(marble, fewest_to_place, self.tray, marble, (0, 0))
            self.assert_unknown(marble, fewest_to_meet, self.tray, marble, "a")
            self.assert_unknown(marble, fewest_to_meet, self.tray, "a", marble)
            self.assert_unknown(marble, places_within, self.tray, marble, 0)

    def test_places_that_do_not_exist(self):
        for place in oracle.NOT_PLACES + ((3, 0), (0, 3), (3, 3)):
            with self.assertRaises(InvalidPlace):
                fewest_to_place(self.tray, "a", place)
        with self.assertRaises(InvalidPlace):
            fewest_to_place(Tray("a..", "..."), "a", (2, 1))
        self.assertIsNone(fewest_to_place(Tray("a..", "..."), "a", (1, 1)))

    def test_the_marble_is_checked_ahead_of_the_place(self):
        for place in oracle.NOT_PLACES:
            self.assert_unknown("e", fewest_to_place, self.tray, "e", place)

    def test_marbles_are_checked_from_left_to_right(self):
        self.assert_unknown("e", fewest_to_meet, self.tray, "e", "f")
        self.assert_unknown("e", fewest_to_meet, self.tray, "e", "e")
        self.assert_unknown(None, fewest_to_meet, self.tray, None, None)
        for marble in "abcd":
            with self.assertRaises(SameMarble):
                fewest_to_meet(self.tray, marble, marble)

    def test_numbers_of_tilts(self):
        for most in oracle.NOT_NUMBERS + (1001, 10 ** 18):
            with self.assertRaises(InvalidNumber):
                places_within(self.tray, "a", most)
            self.assert_unknown("e", places_within, self.tray, "e", most)
            with self.assertRaises(InvalidNumber):
                list(trays_behind(self.tray, "l", most))

    def test_first_tilts(self):
        for first in oracle.NOT_TILTS:
            for count in (0, 1, 1000):
                with self.assertRaises(InvalidNumber):
                    list(trays_behind(self.tray, first, count))


class PlacesWithinTest(unittest.TestCase):
    def test_places_against_all_words(self):
        for rows in ROWS:
            tray = Tray(*rows)
            reached = {rows}
            for most in range(8):
                for marble in tray.marbles:
                    expected = sorted({oracle.places(other)[marble] for other in reached})
                    self.assertEqual(places_within(tray, marble, most), expected, (rows, marble, most))
                reached |= {oracle.tilted(other, tilt) for other in reached for tilt in "lrud"}

    def test_no_tilts(self):
        self.assertEqual(places_within(Tray("..", ".q"), "q", 0), [(1, 1)])

    def test_a_thousand_tilts(self):
        for rows in ROWS + (LONGEST,):
            tray = Tray(*rows)
            reached = oracle.shortest_ways(rows)
            for marble in tray.marbles[:3]:
                expected = sorted({oracle.places(other)[marble] for other, way in reached.items() if len(way) <= 1000})
                self.assertEqual(places_within(tray, marble, 1000), expected)

    def test_a_place_appears_with_its_fewest_tilts_only(self):
        tray = Tray("abcdefgh", "ijklmn..", "opqr....", "stu.....")
        checked = 0
        for row, column in itertools.product(range(4), range(8)):
            way = fewest_to_place(tray, "b", (row, column))
            if way:
                self.assertIn((row, column), places_within(tray, "b", len(way)))
                self.assertNotIn((row, column), places_within(tray, "b", len(way) - 1))
                checked += 1
        self.assertGreater(checked, 0)

    def test_the_list_may_be_modified(self):
        tray = Tray("a.")
        places_within(tray, "a", 1).clear()
        self.assertEqual(places_within(tray, "a", 1), [(0, 0), (0, 1)])
        self.assertIsInstance(places_within(tray, "a", 1), list)


class TraysBehindTest(unittest.TestCase):
    def test_the_order_of_the_tilts(self):
        for rows, (first, text) in itertools.product(
                ROWS, (("u", "urdlurdlu"), ("r", "rdlurdlur"), ("d", "dlurdlurd"), ("l", "lurdlurdl"))):
            found = list(trays_behind(Tray(*rows), first, 9))
            expected = [oracle.after(rows, text[:many]) for many in range(1, 10)]
            self.assertEqual([tray.rows for tray in found], expected, (rows, first))

    def test_how_many_there_are(self):
        for count in (0, 1, 2, 999, 1000):
            found = list(trays_behind(Tray("ab", "c."), "d", count))
            self.assertEqual(len(found), count)
        self.assertEqual(found[-1].rows, oracle.after(("ab", "c."), "dlur" * 250))

    def test_it_yields_trays_one_at_a_time(self):
        tray = Tray("a.b", ".c.", "d..")
        one, other = trays_behind(tray, "u", 3), trays_behind(tray, "u", 3)
        self.assertIsInstance(next(one), Tray)
        self.assertEqual([next(one).rows, next(other).rows], [oracle.after(tray.rows, "ur"), oracle.after(tray.rows, "u")])
        self.assertEqual(len(list(one)), 1)
        with self.assertRaises(StopIteration):
            next(one)
        self.assertEqual(tray.rows, ("a.b", ".c.", "d.."))

    def test_arguments_are_checked_at_the_first_value(self):
        for first, count in (("x", 1), ("l", 1001), ("l", True), (None, None)):
            found = trays_behind(Tray("a."), first, count)
            with self.assertRaises(InvalidNumber):
                next(found)


if __name__ == "__main__":
    unittest.main()
