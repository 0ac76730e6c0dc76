"""Tests of heaps and rounds (points 1, 6, 7 and 8)."""

import itertools
import unittest

import oracle
from tiltheap import rounds
from tiltheap.errors import InvalidNumber, UnknownMarble
from tiltheap.rounds import (
    after_rounds, back_after, circles, exchange, first_unlike_round, heap_lengths, is_back, marble_after, row_lengths,
)
from tiltheap.trays import Tray
from tiltheap.words import Word

MOST = 10 ** 18
TEXTS = ("", "l", "d", "lr", "ud", "lu", "ul", "rd", "dru", "lurd", "rdlu", "druld", "lurdl", "rdlurdlu", "ldlrudr")
# Its circles for "rdlu" have 3, 11, 7, 2 and 2 marbles.
LONGEST = ("abcdefgh", "ijklmn..", "opqr....", "stu.....", "vw......", "x.......", "y.......", "........")


def cases():
    for rows, text in itertools.product(oracle.ROWS, TEXTS):
        yield rows, text, Tray(*rows), Word(text)


class InterfaceTest(unittest.TestCase):
    def test_example_of_lengths(self):
        tray = Tray("a.b", ".c.", "d..")
        self.assertEqual(
            [row_lengths(tray, Word("ld")), heap_lengths(tray, Word("ld")), heap_lengths(tray, Word("l"))],
            [[1, 1, 2], [2, 1, 1], None],
        )

    def test_example_of_rounds(self):
        tray = Tray("a.b", ".c.", "d..")
        self.assertEqual(
            [after_rounds(tray, Word("lurd"), 2).rows, marble_after(tray, "a", Word("lurd"), 10 ** 18)],
            [("..d", "..c", ".ba"), (2, 1)],
        )

    def test_example_of_circles(self):
        tray = Tray("ab.", "c..", "d..")
        self.assertEqual(
            [circles(tray, Word("rdlu")), back_after(tray, Word("rdlu")), is_back(tray, Word("rdlu")),
             exchange(tray, Word("lu"))],
            [["abd", "c"], 3, True, {(0, 0): (0, 0), (0, 1): (0, 1), (1, 0): (1, 0), (2, 0): (2, 0)}],
        )

    def test_example_of_unlike_rounds(self):
        tray = Tray("a.b", ".c.", "d..")
        self.assertEqual(
            [first_unlike_round(tray, Word("lu"), Word("rlu")), first_unlike_round(tray, Word("lu"), Word("ul"))],
            [None, 1],
        )

    def test_functions_are_defined_in_the_file_itself(self):
        for name in ("row_lengths", "heap_lengths", "after_rounds", "marble_after", "exchange", "circles",
                     "back_after", "is_back", "first_unlike_round"):
            self.assertEqual(getattr(rounds, name).__module__, "tiltheap.rounds")

    def test_arguments_have_their_names(self):
        tray, word = Tray("a."), Word("r")
        self.assertEqual(row_lengths(tray=tray, word=word), [1])
        self.assertIsNone(heap_lengths(tray=tray, word=word))
        self.assertEqual(after_rounds(tray=tray, word=word, times=1).rows, (".a",))
        self.assertEqual(marble_after(tray=tray, marble="a", word=word, times=1), (0, 1))
        self.assertEqual(exchange(tray=tray, word=word), {(0, 1): (0, 1)})
        self.assertEqual(circles(tray=tray, word=word), ["a"])
        self.assertEqual(back_after(tray=tray, word=word), 1)
        self.assertIs(is_back(tray=tray, word=word), False)
        self.assertEqual(first_unlike_round(tray=tray, word=word, other=Word("l")), 1)


class LengthsTest(unittest.TestCase):
    def test_row_lengths(self):
        for rows, text, tray, word in cases():
            with self.subTest(rows=rows, text=text):
                expected = [len(row) - row.count(".") for row in oracle.after(rows, text)]
                self.assertEqual(row_lengths(tray, word), expected)

    def test_row_lengths_of_known_trays(self):
        tray = Tray("a.b.", ".c..", "....")
        self.assertEqual(row_lengths(tray, Word("")), [2, 1, 0])
        self.assertEqual(row_lengths(tray, Word("l")), [2, 1, 0])
        self.assertEqual(row_lengths(tray, Word("u")), [3, 0, 0])
        self.assertEqual(row_lengths(tray, Word("d")), [0, 0, 3])
        self.assertEqual(row_lengths(tray, Word("ld")), [0, 1, 2])
        self.assertEqual(row_lengths(Tray("..", ".."), Word("lu")), [0, 0])

    def test_no_heap_without_a_corner(self):
        for text in ("", "l", "r", "u", "d", "lr", "du", "llll"):
            self.assertIsNone(heap_lengths(Tray("ab", "c."), Word(text)))
            self.assertIsNone(heap_lengths(Tray("."), Word(text)))

    def test_heap_lengths_begin_at_the_corner(self):
        tray = Tray("a.b", ".c.", "d..")
        for text in ("lu", "ru", "ld", "rd", "lurdl"):
            self.assertEqual(heap_lengths(tray, Word(text)), [2, 1, 1], text)
        for text in ("ul", "ur", "dl", "dr", "dru"):
            self.assertEqual(heap_lengths(tray, Word(text)), [3, 1], text)

    def test_a_tray_without_marbles_has_a_heap_without_rows(self):
        for text in ("lu", "dr", "rdlu"):
            self.assertEqual(heap_lengths(Tray("..", ".."), Word(text)), [])

    def test_heap_lengths_against_the_definition(self):
        for rows, text, tray, word in cases():
            with self.subTest(rows=rows, text=text):
                corner = word.corner
                if corner is None:
                    self.assertIsNone(heap_lengths(tray, word))
                    continue
                counts = [len(row) - row.count(".") for row in oracle.after(rows, text)]
                from_corner = counts if corner[0] == "u" else counts[::-1]
                self.assertEqual(heap_lengths(tray, word), [count for count in from_corner if count])
                self.assertEqual(heap_lengths(tray, word), sorted(counts, reverse=True)[:len(counts) - counts.count(0)])

    def test_further_tilts_do_not_change_the_lengths(self):
        for rows, start in itertools.product(oracle.ROWS, ("lu", "dr")):
            tray = Tray(*rows)
            lengths = heap_lengths(tray, Word(start))
            for text in oracle.texts(3):
                self.assertEqual(heap_lengths(tray, Word(start + text)), lengths)

    def test_returned_lists_may_be_modified(self):
        tray = Tray("ab", "c.")
        for call in (row_lengths, heap_lengths):
            call(tray, Word("lu")).clear()
            self.assertEqual(call(tray, Word("lu")), [2, 1])


class AfterRoundsTest(unittest.TestCase):
    def test_first_rounds(self):
        for rows, text, tray, word in cases():
            reached = rows
            for times in range(25):
                self.assertEqual(after_rounds(tray, word, times).rows, reached, (rows, text, times))
                for marble, place in oracle.places(reached).items():
                    self.assertEqual(marble_after(tray, marble, word, times), place)
                reached = oracle.after(reached, text)

    def test_many_rounds(self):
        for rows, text, tray, word in cases():
            for times in (1000, 123456789, 10 ** 12 + 7, MOST - 2, MOST - 1, MOST):
                expected = oracle.rows_after(rows, text, times)
                self.assertEqual(after_rounds(tray, word, times).rows, expected, (rows, text, times))

    def test_the_longest_repetition(self):
        tray, word = Tray(*LONGEST), Word("rdlu")
        for times in (0, 1, 231, 461, 462, 463, 10 ** 9, MOST):
            expected = oracle.rows_after(LONGEST, "rdlu", times)
            self.assertEqual(after_rounds(tray, word, times).rows, expected)
            self.assertEqual(marble_after(tray, "q", word, times), oracle.places(expected)["q"])

    def test_the_longest_word(self):
        tray = Tray("ab.", "c..", "d..")
        self.assertEqual(after_rounds(tray, Word("rdlu" * 15), MOST), tray)
        self.assertEqual(after_rounds(tray, Word("rdlu" * 14), MOST).rows, oracle.rows_after(tray.rows, "rdlu" * 14, MOST))

    def test_no_rounds(self):
        for rows, text, tray, word in cases():
            self.assertEqual(after_rounds(tray, word, 0), tray)
            self.assertIsInstance(after_rounds(tray, word, 0), Tray)

    def test_trays_without_marbles(self):
        for times in (0, 1, MOST):
            self.assertEqual(after_rounds(Tray("..", ".."), Word("lurd"), times).rows, ("..", ".."))

    def test_numbers_of_rounds(self):
        tray = Tray("ab", "c.")
        for word in (Word(""), Word("lurd")):
            for times in oracle.NOT_NUMBERS + (MOST + 1, 10 ** 30):
                with self.assertRaises(InvalidNumber):
                    after_rounds(tray, word, times)
                with self.assertRaises(InvalidNumber):
                    marble_after(tray, "a", word, times)

    def test_unknown_marbles(self):
        tray = Tray("ab", "c.")
        for marble in oracle.NOT_MARBLES + ("d", "z"):
            with self.assertRaises(UnknownMarble) as caught:
                marble_after(tray, marble, Word("lu"), 1)
            self.assertIs(caught.exception.marble, marble)

    def test_the_marble_is_checked_ahead_of_the_number(self):
        for times in oracle.NOT_NUMBERS + (MOST + 1,):
            with self.assertRaises(UnknownMarble):
                marble_after(Tray("ab", "c."), "d", Word("lu"), times)

    def test_the_place_is_a_tuple(self):
        self.assertIsInstance(marble_after(Tray("ab", "c."), "a", Word("rd"), 5), tuple)

    def test_arguments_stay_as_they_are(self):
        tray, word = Tray("a.b", ".c.", "d.."), Word("lurd")
        after_rounds(tray, word, 7)
        marble_after(tray, "a", word, 7)
        self.assertEqual((tray.rows, word.text), (("a.b", ".c.", "d.."), "lurd"))
        self.assertEqual(after_rounds(tray, word, 7), after_rounds(tray, word, 7))


class ExchangeTest(unittest.TestCase):
    def test_places_after_the_first_round_and_a_round_later(self):
        for rows, text, tray, word in cases():
            with self.subTest(rows=rows, text=text):
                first = oracle.places(oracle.after(rows, text))
                second = oracle.places(oracle.after(rows, text * 2))
                self.assertEqual(exchange(tray, word), {first[marble]: second[marble] for marble in first})

    def test_each_further_round_moves_places_likewise(self):
        for rows, text, tray, word in cases():
            moves = exchange(tray, word)
            reached = oracle.after(rows, text)
            for _ in range(6):
                before, reached = reached, oracle.after(reached, text)
                for marble, place in oracle.places(before).items():
                    self.assertEqual(moves[place], oracle.places(reached)[marble])

    def test_the_first_round_does_not_count(self):
        self.assertEqual(exchange(Tray("a.", ".."), Word("rd")), {(1, 1): (1, 1)})
        self.assertEqual(exchange(Tray("a.b"), Word("")), {(0, 0): (0, 0), (0, 2): (0, 2)})

    def test_no_marbles(self):
        self.assertEqual(exchange(Tray(".."), Word("lurd")), {})

    def test_the_dict_may_be_modified(self):
        tray, word = Tray("ab", "c."), Word("rdlu")
        expected = dict(exchange(tray, word))
        exchange(tray, word).clear()
        self.assertEqual(exchange(tray, word), expected)
        self.assertIsInstance(expected, dict)


class CirclesTest(unittest.TestCase):
    def test_known_circles(self):
        tray = Tray(*LONGEST)
        self.assertEqual(circles(tray, Word("rdlu")), ["ahy", "brjmogvetdw", "cuinsfx", "kq", "lp"])
        self.assertEqual(back_after(tray, Word("rdlu")), 462)
        self.assertEqual(circles(Tray("za", ".m"), Word("l")), ["a", "m", "z"])
        self.assertEqual(circles(Tray("ca", "b."), Word("rdlu")), ["abc"])
        self.assertEqual(circles(Tray("ba", "c."), Word("rdlu")), ["acb"])

    def test_circles_against_the_definition(self):
        for rows, text, tray, word in cases():
            with self.subTest(rows=rows, text=text):
                first = oracle.after(rows, text)
                second = oracle.places(oracle.after(first, text))
                at = {place: marble for marble, place in second.items()}
                found = circles(tray, word)
                self.assertEqual(sorted("".join(found)), sorted(oracle.places(rows)))
                self.assertEqual(found, sorted(found))
                for circle in found:
                    self.assertEqual(circle[0], min(circle))
                    for marble, following in zip(circle, circle[1:] + circle[0]):
                        self.assertEqual(at[oracle.places(first)[marble]], following)

    def test_no_marbles(self):
        self.assertEqual(circles(Tray(".."), Word("lurd")), [])
        self.assertEqual(back_after(Tray(".."), Word("lurd")), 1)
        self.assertIs(is_back(Tray(".."), Word("lurd")), True)

    def test_words_without_a_corner_and_the_empty_word(self):
        tray = Tray("a.b", ".c.", "d..")
        for text in ("", "l", "r", "u", "d", "lr", "udu"):
            self.assertEqual(circles(tray, Word(text)), ["a", "b", "c", "d"])
            self.assertEqual(back_after(tray, Word(text)), 1)
            self.assertIs(is_back(tray, Word(text)), text == "")

    def test_the_list_may_be_modified(self):
        tray, word = Tray("ab", "c."), Word("rdlu")
        circles(tray, word).clear()
        self.assertEqual(circles(tray, word), ["abc"])


class BackTest(unittest.TestCase):
    def test_back_after_counts_from_the_first_round(self):
        for rows, text, tray, word in cases():
            with self.subTest(rows=rows, text=text):
                many = back_after(tray, word)
                self.assertEqual(many, len(oracle.rounds_until_repeated(rows, text)) - 1)
                self.assertEqual(after_rounds(tray, word, many + 1), after_rounds(tray, word, 1))

    def test_is_back_against_the_definition(self):
        answers = set()
        for rows, text, tray, word in cases():
            found = oracle.rounds_until_repeated(rows, text)
            self.assertIs(is_back(tray, word), rows in found[1:], (rows, text))
            answers.add(is_back(tray, word))
        self.assertEqual(answers, {True, False})

    def test_a_tray_in_the_corner_is_back_even_if_marbles_move(self):
        self.assertIs(is_back(Tray("ab", "c."), Word("rdlu")), True)
        self.assertIs(is_back(Tray("ab", "c."), Word("rd")), False)
        self.assertIs(is_back(Tray(*LONGEST), Word("rdlu")), True)


class UnlikeRoundTest(unittest.TestCase):
    def test_known_words(self):
        tray = Tray("ab", "c.")
        self.assertEqual(first_unlike_round(tray, Word("r"), Word("dlur")), 2)
        self.assertEqual(first_unlike_round(tray, Word("dlur"), Word("r")), 2)
        self.assertEqual(first_unlike_round(tray, Word("r"), Word("d")), 1)
        self.assertIsNone(first_unlike_round(tray, Word("lurl"), Word("lu")))
        self.assertIsNone(first_unlike_round(tray, Word(""), Word("lu")))
        self.assertIsNone(first_unlike_round(tray, Word(""), Word("")))
        self.assertIsNone(first_unlike_round(Tray(".."), Word("lurd"), Word("")))

    def test_unlike_rounds_against_the_definition(self):
        answers = set()
        texts = list(oracle.texts(3)) + ["dlur", "udlur", "rdlu", "lurd", "rdlurdlu", "lurdlurd"]
        for rows in (("ab", "c."), ("a.b", ".c.", "d.."), ("abc", "de.")):
            states = {text: [oracle.rows_after(rows, text, times) for times in range(40)] for text in texts}
            for one, other in itertools.product(texts, texts):
                unlike = [times for times in range(40) if states[one][times] != states[other][times]]
                expected = unlike[0] if unlike else None
                self.assertEqual(first_unlike_round(Tray(*rows), Word(one), Word(other)), expected, (rows, one, other))
                answers.add(expected)
        self.assertEqual(answers, {None, 1, 2})


if __name__ == "__main__":
    unittest.main()
