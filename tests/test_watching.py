"""Tests of observers who do not know which word is repeated (points 1, 13 and 14)."""

import itertools
import unittest

import oracle
from tiltheap import watching
from tiltheap.errors import Contradiction, InvalidNumber, InvalidPlace, UnknownMarble
from tiltheap.trays import Tray
from tiltheap.watching import WordObserver, surely_at
from tiltheap.words import Word

MOST = 10 ** 18
ROWS = ("a.b", ".c.", "d..")
TEXTS = ("lu", "rd", "lurd")
MANY_TEXTS = ("", "l", "rl", "lu", "lurl", "ul", "rd", "rdlu", "lurd", "rdlurdlu", "dlur", "lu", "udl")
ROUNDS = (0, 1, 2, 3, 4, 17, 200, 201, 10 ** 9 + 7, MOST - 1, MOST)
NOT_ROUNDS = oracle.NOT_NUMBERS + (MOST + 1, 10 ** 30)
NOT_LIMITS = oracle.NOT_NUMBERS + (201, 1000, MOST, 10 ** 30)
NOT_ROWS = oracle.NOT_NUMBERS + (3, 8, 10 ** 30, (0, 0))
# Its circles for "rdlu" have three and one marble.
TURNING = ("ab.", "c..", "d..")


def observer_of(rows, texts):
    return WordObserver(Tray(*rows), *[Word(text) for text in texts])


def example():
    return observer_of(ROWS, TEXTS)


def used():
    """Return an observer with two observations, who doubts between two words."""
    observer = example()
    observer.see_row(1, 0, "..b")
    observer.see_marble(0, "a", (0, 0))
    return observer


def state(observer):
    return observer.candidates, observer.observations


def telling_round_of(rows, texts, limit):
    """Return the first number of rounds behind which the texts lead to most different rows."""
    reached = {text: rows for text in texts}
    counts = []
    for _ in range(limit + 1):
        counts.append(len(set(reached.values())))
        reached = {text: oracle.after(reached[text], text) for text in texts}
    return counts.index(max(counts))


class WatchingTest(unittest.TestCase):
    def assert_raises_and_keeps(self, error, observer, call, *arguments):
        before = state(observer)
        with self.assertRaises(error) as caught:
            call(*arguments)
        self.assertEqual(state(observer), before)
        return caught.exception


class InterfaceTest(WatchingTest):
    def test_example_without_words(self):
        with self.assertRaises(InvalidNumber):
            WordObserver(Tray(*ROWS))

    def test_examples_of_observations(self):
        observer = example()
        self.assertEqual([observer.see_row(1, 0, "..b"), observer.candidates], [2, [1, 2]])
        observer = example()
        self.assert_raises_and_keeps(Contradiction, observer, observer.see_marble, 1, "d", (1, 1))
        self.assert_raises_and_keeps(InvalidPlace, observer, observer.see_row, 0, 3, "...")

    def test_example_of_a_log(self):
        other = WordObserver.from_log(Tray(*ROWS), [Word("lu"), Word("rd")], [("see_marble", 1, "a", (0, 0))])
        self.assertEqual(other.candidates, [0])

    def test_example_of_the_properties(self):
        observer = example()
        observer.see_marble(1, "a", (0, 0))
        self.assertEqual(
            [observer.candidates, observer.observations],
            [[0], [("see_marble", 1, "a", (0, 0))]],
        )

    def test_example_of_trays(self):
        observer = example()
        self.assertEqual(
            [len(observer.trays_after(0)), observer.trays_after(1)[0].rows, observer.telling_round(0)],
            [1, ("ab.", "c..", "d.."), 0],
        )

    def test_example_of_what_is_sure(self):
        self.assertEqual(surely_at(example(), 0), {"a": (0, 0), "b": (0, 2), "c": (1, 1), "d": (2, 0)})

    def test_all_that_is_listed_is_defined_in_the_file_and_the_class(self):
        self.assertEqual(WordObserver.__module__, "tiltheap.watching")
        self.assertEqual(watching.surely_at.__module__, "tiltheap.watching")
        for name in ("candidates", "observations"):
            self.assertIsInstance(vars(WordObserver)[name], property)
        self.assertIsInstance(vars(WordObserver)["from_log"], classmethod)
        for name in ("__init__", "see_marble", "see_row", "trays_after", "telling_round"):
            self.assertIn(name, vars(WordObserver))

    def test_arguments_have_their_names(self):
        tray = Tray("a.")
        observer = WordObserver.from_log(tray=tray, words=[Word("r"), Word("l")], observations=[])
        self.assertEqual(observer.see_marble(rounds=0, marble="a", place=(0, 0)), 2)
        self.assertEqual(observer.see_row(rounds=1, row=0, cells="a."), 1)
        self.assertEqual([after.rows for after in observer.trays_after(rounds=1)], [("a.",)])
        self.assertEqual(observer.telling_round(limit=3), 0)
        self.assertEqual(surely_at(observer=observer, rounds=1), {"a": (0, 0)})


class WordsTest(WatchingTest):
    def test_the_words_are_numbered_from_0(self):
        self.assertEqual(state(observer_of(ROWS, ["lu"])), ([0], []))
        self.assertEqual(state(example()), ([0, 1, 2], []))
        self.assertEqual(observer_of(ROWS, ["l"] * 100).candidates, list(range(100)))

    def test_equal_words_count_separately(self):
        observer = observer_of(ROWS, ("rd", "lu", "rd", "rd"))
        self.assertEqual(observer.candidates, [0, 1, 2, 3])
        self.assertEqual(observer.see_marble(1, "a", (2, 1)), 3)
        self.assertEqual(observer.candidates, [0, 2, 3])

    def test_numbers_of_words_stay(self):
        observer = observer_of(ROWS, ("lu", "rd", "ul", "rd"))
        self.assertEqual(observer.see_row(1, 2, "..."), 1)
        self.assertEqual(observer.candidates, [2])

    def test_no_words(self):
        for rows in oracle.ROWS:
            with self.assertRaises(InvalidNumber):
                WordObserver(Tray(*rows))
            with self.assertRaises(InvalidNumber):
                WordObserver.from_log(Tray(*rows), [], [])

    def test_observers_do_not_share_anything(self):
        tray, words = Tray(*ROWS), [Word(text) for text in TEXTS]
        one, other = WordObserver(tray, *words), WordObserver(tray, *words)
        one.see_marble(1, "a", (0, 0))
        self.assertEqual(state(other), ([0, 1, 2], []))


class SeeMarbleTest(WatchingTest):
    def test_against_the_definition(self):
        for rows, rounds in itertools.product(oracle.ROWS, ROUNDS):
            shown = [oracle.places(oracle.rows_after(rows, text, rounds)) for text in MANY_TEXTS]
            places = itertools.product(range(len(rows)), range(len(rows[0])))
            for marble, place in itertools.product(sorted(shown[0])[:2], places):
                expected = [number for number, found in enumerate(shown) if found[marble] == place]
                observer = observer_of(rows, MANY_TEXTS)
                if expected:
                    self.assertEqual(observer.see_marble(rounds, marble, place), len(expected))
                    self.assertEqual(state(observer), (expected, [("see_marble", rounds, marble, place)]))
                else:
                    self.assert_raises_and_keeps(Contradiction, observer, observer.see_marble, rounds, marble, place)

    def test_numbers_of_rounds(self):
        for rounds in NOT_ROUNDS:
            observer = used()
            self.assert_raises_and_keeps(InvalidNumber, observer, observer.see_marble, rounds, "b", (0, 2))

    def test_unknown_marbles(self):
        for marble in oracle.NOT_MARBLES + ("e", "z"):
            observer = used()
            error = self.assert_raises_and_keeps(UnknownMarble, observer, observer.see_marble, 0, marble, (0, 2))
            self.assertIs(error.marble, marble)

    def test_places_that_do_not_exist(self):
        for place in oracle.NOT_PLACES + ((3, 0), (0, 3), (3, 3), [0, 2], (False, 2)):
            observer = used()
            self.assert_raises_and_keeps(InvalidPlace, observer, observer.see_marble, 0, "b", place)

    def test_a_place_of_truth_values_does_not_count_as_numbers(self):
        observer = observer_of((".a",), ["l", "r"])
        self.assert_raises_and_keeps(InvalidPlace, observer, observer.see_marble, 0, "a", (0, True))
        self.assert_raises_and_keeps(InvalidPlace, observer, observer.see_marble, 0, "a", (False, 1))
        self.assert_raises_and_keeps(InvalidNumber, observer, observer.see_marble, False, "a", (0, 1))
        self.assertEqual(observer.see_marble(0, "a", (0, 1)), 2)

    def test_order_of_the_checks(self):
        observer = used()
        self.assert_raises_and_keeps(InvalidNumber, observer, observer.see_marble, MOST + 1, "e", None)
        self.assert_raises_and_keeps(InvalidNumber, observer, observer.see_marble, True, None, (0, 0))
        self.assert_raises_and_keeps(UnknownMarble, observer, observer.see_marble, 0, "e", None)
        self.assert_raises_and_keeps(UnknownMarble, observer, observer.see_marble, 0, "e", (3, 3))
        self.assert_raises_and_keeps(InvalidPlace, observer, observer.see_marble, 0, "a", (3, 0))

    def test_places_of_trays_that_are_not_square(self):
        observer = observer_of(("a...",), ["r", "l"])
        self.assert_raises_and_keeps(InvalidPlace, observer, observer.see_marble, 1, "a", (3, 0))
        self.assertEqual(observer.see_marble(1, "a", (0, 3)), 1)


class SeeRowTest(WatchingTest):
    def test_against_the_definition(self):
        for rows, rounds in itertools.product(oracle.ROWS, ROUNDS):
            shown = [oracle.rows_after(rows, text, rounds) for text in MANY_TEXTS]
            for row in range(len(rows)):
                for cells in sorted({found[row] for found in shown}):
                    expected = [number for number, found in enumerate(shown) if found[row] == cells]
                    observer = observer_of(rows, MANY_TEXTS)
                    self.assertEqual(observer.see_row(rounds, row, cells), len(expected))
                    self.assertEqual(state(observer), (expected, [("see_row", rounds, row, cells)]))

    def test_strings_that_the_row_cannot_read(self):
        for cells in ("", ".", "..", "....", "..b.", "..b\n", " ..b", "..B", "--b", "||", "zzz", "..z", "aaa", "\u0430.b",
                      "..b" * 100, "...", "a.b"):
            observer = example()
            self.assert_raises_and_keeps(Contradiction, observer, observer.see_row, 1, 0, cells)

    def test_what_is_not_a_string(self):
        for cells in oracle.NOT_STRINGS + (("a", ".", "b"), ["a", ".", "b"], ROWS):
            observer = example()
            self.assert_raises_and_keeps(Contradiction, observer, observer.see_row, 0, 0, cells)

    def test_numbers_of_rounds(self):
        for rounds in NOT_ROUNDS:
            observer = used()
            self.assert_raises_and_keeps(InvalidNumber, observer, observer.see_row, rounds, 0, "a.b")

    def test_rows_that_do_not_exist(self):
        for row in NOT_ROWS:
            observer = used()
            self.assert_raises_and_keeps(InvalidPlace, observer, observer.see_row, 0, row, "a.b")
        observer = observer_of(("a...",), ["l"])
        self.assert_raises_and_keeps(InvalidPlace, observer, observer.see_row, 0, 1, "a...")
        observer = observer_of(("a", "."), ["l"])
        self.assert_raises_and_keeps(InvalidPlace, observer, observer.see_row, 0, True, ".")
        self.assertEqual(observer.see_row(0, 1, "."), 1)

    def test_order_of_the_checks(self):
        observer = used()
        self.assert_raises_and_keeps(InvalidNumber, observer, observer.see_row, -1, 3, "zzz")
        self.assert_raises_and_keeps(InvalidNumber, observer, observer.see_row, MOST + 1, None, None)
        self.assert_raises_and_keeps(InvalidPlace, observer, observer.see_row, 0, 3, "zzz")
        self.assert_raises_and_keeps(InvalidPlace, observer, observer.see_row, 0, True, None)


class ObservationsTest(WatchingTest):
    def test_observations_are_kept_in_their_order(self):
        observer = observer_of(ROWS, MANY_TEXTS)
        self.assertEqual(observer.see_row(1, 2, "d.."), 6)
        self.assertEqual(observer.candidates, [0, 1, 2, 3, 4, 11])
        self.assertEqual(observer.see_marble(MOST, "b", (0, 1)), 5)
        self.assertEqual(observer.candidates, [1, 2, 3, 4, 11])
        self.assertEqual(observer.see_marble(0, "c", (1, 1)), 5)
        self.assertEqual(observer.observations, [
            ("see_row", 1, 2, "d.."), ("see_marble", MOST, "b", (0, 1)), ("see_marble", 0, "c", (1, 1)),
        ])

    def test_an_observation_may_be_repeated(self):
        observer = example()
        for many in range(1, 4):
            self.assertEqual(observer.see_row(1, 0, "..b"), 2)
            self.assertEqual(state(observer), ([1, 2], [("see_row", 1, 0, "..b")] * many))

    def test_contradictions_count_the_earlier_observations(self):
        observer = example()
        self.assertEqual(observer.see_marble(1, "a", (0, 0)), 1)
        self.assert_raises_and_keeps(Contradiction, observer, observer.see_row, 1, 0, "..b")
        self.assertEqual(observer.see_row(1, 0, "ab."), 1)
        self.assertEqual(state(observer), ([0], [("see_marble", 1, "a", (0, 0)), ("see_row", 1, 0, "ab.")]))

    def test_words_that_do_the_same_for_ever_cannot_be_told_apart(self):
        observer = observer_of(ROWS, ("lurd", "rlurd"))
        for rounds in ROUNDS:
            for marble, place in oracle.places(oracle.rows_after(ROWS, "lurd", rounds)).items():
                self.assertEqual(observer.see_marble(rounds, marble, place), 2)

    def test_words_that_a_late_round_tells_apart(self):
        observer = observer_of(TURNING, ("rdlu", "rdlurdlu", "rdlu" * 3))
        self.assertEqual(observer.see_marble(3, "a", (0, 0)), 3)
        expected = oracle.places(oracle.rows_after(TURNING, "rdlu", MOST))["b"]
        self.assertEqual(observer.see_marble(MOST, "b", expected), 1)
        self.assertEqual(observer.candidates, [0])

    def test_the_lists_are_new_for_each_reading(self):
        observer = used()
        before = state(observer)
        observer.candidates.clear()
        observer.observations.append(None)
        self.assertEqual(state(observer), before)
        self.assertIsNot(observer.candidates, observer.candidates)
        self.assertIsNot(observer.observations, observer.observations)
        kept = state(observer)
        observer.see_row(1, 2, ".ad")
        self.assertEqual(kept, before)
        self.assertNotEqual(state(observer), before)

    def test_kinds_of_values(self):
        observer = used()
        self.assertIsInstance(observer.candidates, list)
        self.assertIsInstance(observer.observations, list)
        for observation in observer.observations:
            self.assertIsInstance(observation, tuple)
        self.assertIs(type(observer.see_row(1, 0, "..b")), int)

    def test_observations_of_trays_without_marbles(self):
        observer = observer_of(("..",), ("l", "r"))
        self.assertEqual(observer.see_row(MOST, 0, ".."), 2)
        self.assert_raises_and_keeps(UnknownMarble, observer, observer.see_marble, 0, "a", (0, 0))


class FromLogTest(WatchingTest):
    def log(self):
        return [("see_row", 1, 0, "..b"), ("see_marble", MOST, "d", (2, 2)), ("see_marble", 0, "a", (0, 0))]

    def test_an_observer_after_observations(self):
        words = [Word(text) for text in TEXTS]
        observer = WordObserver.from_log(Tray(*ROWS), words, self.log())
        self.assertIsInstance(observer, WordObserver)
        self.assertEqual(state(observer), ([1, 2], self.log()))
        self.assertEqual(state(WordObserver.from_log(Tray(*ROWS), words, [])), ([0, 1, 2], []))

    def test_observations_of_an_observer_can_be_taken_again(self):
        for observer in (example(), used()):
            words = [Word(text) for text in TEXTS]
            other = WordObserver.from_log(Tray(*ROWS), words, observer.observations)
            self.assertEqual(state(other), state(observer))

    def test_errors_are_those_of_the_methods(self):
        words = [Word(text) for text in TEXTS]
        for observation, error in (
            (("see_marble", -1, "a", (0, 0)), InvalidNumber), (("see_marble", True, "e", None), InvalidNumber),
            (("see_marble", 0, "e", None), UnknownMarble), (("see_marble", 0, None, (0, 0)), UnknownMarble),
            (("see_marble", 0, "a", [0, 0]), InvalidPlace), (("see_marble", 0, "a", (0, 3)), InvalidPlace),
            (("see_marble", 0, "a", (0, 1)), Contradiction), (("see_marble", 1, "a", (0, 0)), Contradiction),
            (("see_row", MOST + 1, 0, "a.b"), InvalidNumber), (("see_row", None, 9, "a.b"), InvalidNumber),
            (("see_row", 0, 3, "a.b"), InvalidPlace), (("see_row", 0, True, ".c."), InvalidPlace),
            (("see_row", 0, 0, "a.c"), Contradiction), (("see_row", 0, 0, None), Contradiction),
        ):
            with self.assertRaises(error):
                WordObserver.from_log(Tray(*ROWS), words, [("see_row", 1, 0, "..b"), observation])

    def test_the_first_wrong_observation_counts(self):
        with self.assertRaises(Contradiction):
            WordObserver.from_log(Tray(*ROWS), [Word("lu")], [("see_row", 0, 0, ""), ("see_row", -1, 0, "")])
        with self.assertRaises(InvalidNumber):
            WordObserver.from_log(Tray(*ROWS), [Word("lu")], [("see_row", -1, 0, ""), ("see_row", 0, 0, "")])

    def test_words_are_checked_ahead_of_observations(self):
        with self.assertRaises(InvalidNumber):
            WordObserver.from_log(Tray(*ROWS), [], [("see_marble", 0, "e", (0, 0))])

    def test_the_unknown_marble_is_told(self):
        with self.assertRaises(UnknownMarble) as caught:
            WordObserver.from_log(Tray(*ROWS), [Word("lu")], [("see_marble", 0, "q", (0, 0))])
        self.assertEqual(caught.exception.marble, "q")

    def test_arguments_are_neither_modified_nor_kept(self):
        tray, words, observations = Tray(*ROWS), [Word(text) for text in TEXTS], self.log()
        observer = WordObserver.from_log(tray, words, observations)
        self.assertEqual((tray.rows, [word.text for word in words], observations), (ROWS, list(TEXTS), self.log()))
        words.clear()
        observations.clear()
        self.assertEqual(state(observer), ([1, 2], self.log()))
        self.assertEqual([after.rows for after in observer.trays_after(1)], [oracle.after(ROWS, "rd")])


class TraysAfterTest(WatchingTest):
    def test_against_the_definition(self):
        for rows, rounds in itertools.product(oracle.ROWS, ROUNDS):
            expected = list(dict.fromkeys(oracle.rows_after(rows, text, rounds) for text in MANY_TEXTS))
            found = observer_of(rows, MANY_TEXTS).trays_after(rounds)
            self.assertIsInstance(found, list)
            self.assertEqual([after.rows for after in found], expected)
            self.assertTrue(all(isinstance(after, Tray) for after in found))

    def test_the_order_is_that_of_the_words(self):
        for texts in itertools.permutations(("lu", "ru", "rlu", "ld", "lu")):
            expected = list(dict.fromkeys(oracle.after(ROWS, text) for text in texts))
            self.assertEqual([after.rows for after in observer_of(ROWS, texts).trays_after(1)], expected)

    def test_only_words_that_remain_possible_count(self):
        observer = used()
        self.assertEqual([after.rows for after in observer.trays_after(1)], [oracle.after(ROWS, "rd")])
        observer = observer_of(ROWS, ("rd", "ld", "ul", "rdl"))
        observer.see_marble(1, "c", (1, 0))
        self.assertEqual(
            [after.rows for after in observer.trays_after(1)],
            [oracle.after(ROWS, text) for text in ("ld", "rdl")],
        )

    def test_numbers_of_rounds(self):
        for rounds in NOT_ROUNDS:
            observer = used()
            self.assert_raises_and_keeps(InvalidNumber, observer, observer.trays_after, rounds)

    def test_returned_lists_may_be_modified(self):
        observer = example()
        for rounds in (0, 1, MOST):
            expected = list(observer.trays_after(rounds))
            observer.trays_after(rounds).clear()
            self.assertEqual(observer.trays_after(rounds), expected)

    def test_reading_changes_nothing(self):
        observer = used()
        before = state(observer)
        observer.trays_after(5)
        observer.telling_round(20)
        surely_at(observer, 7)
        self.assertEqual(state(observer), before)


class TellingRoundTest(WatchingTest):
    def test_against_the_definition(self):
        answers = set()
        lists = (("rdlu", "lurd"), ("lu", "rd", "lurd"), ("l", "lu"), ("rdlu", "rdlurdlu"), ("rdlu", "", "rdlu"),
                 MANY_TEXTS)
        for rows, texts, limit in itertools.product(oracle.ROWS, lists, (0, 1, 2, 3, 7, 20)):
            expected = telling_round_of(rows, texts, limit)
            self.assertEqual(observer_of(rows, texts).telling_round(limit), expected, (rows, texts, limit))
            answers.add(expected)
        self.assertTrue({0, 1, 2} <= answers)

    def test_the_first_one_of_several(self):
        self.assertEqual(observer_of(ROWS, ("lu", "rd")).telling_round(200), 1)
        self.assertEqual(observer_of(ROWS, ("lu",)).telling_round(200), 0)
        self.assertEqual(observer_of(ROWS, ("lu", "lu")).telling_round(200), 0)

    def test_the_limit_counts_itself(self):
        rows = ("ah.gi", "dcfeb")
        texts = ("rdlu" * 5, "rul" * 2, "drul" * 6, "drul", "drul" * 2, "u", "rdlu" * 3)
        observer = observer_of(rows, texts)
        for limit in (7, 8, 9, 200):
            self.assertEqual(observer.telling_round(limit), telling_round_of(rows, texts, limit))
        self.assertLess(observer.telling_round(7), 8)
        self.assertEqual([observer.telling_round(8), observer.telling_round(200)], [8, 8])

    def test_only_words_that_remain_possible_count(self):
        observer = example()
        self.assertEqual(observer.telling_round(9), 2)
        observer.see_marble(2, "a", (2, 1))
        self.assertEqual(observer.candidates, [1])
        self.assertEqual(observer.telling_round(9), 0)

    def test_limits(self):
        for limit in NOT_LIMITS:
            observer = used()
            self.assert_raises_and_keeps(InvalidNumber, observer, observer.telling_round, limit)
        self.assertEqual(example().telling_round(0), 0)


class SurelyAtTest(WatchingTest):
    def expected(self, rows, texts, rounds):
        shown = [oracle.places(oracle.rows_after(rows, text, rounds)) for text in texts]
        return {
            marble: shown[0][marble] for marble in sorted(shown[0])
            if all(found[marble] == shown[0][marble] for found in shown)
        }

    def test_against_the_definition(self):
        lists = (("lu",), ("lu", "ul"), ("lu", "l"), ("rdlu", "lu"), TEXTS, MANY_TEXTS)
        for rows, texts, rounds in itertools.product(oracle.ROWS, lists, ROUNDS):
            found = surely_at(observer_of(rows, texts), rounds)
            self.assertIsInstance(found, dict)
            self.assertEqual(list(found.items()), list(self.expected(rows, texts, rounds).items()))

    def test_known_places(self):
        observer = observer_of(ROWS, ("lu", "ul", "lul"))
        self.assertEqual(surely_at(observer, 1), {"a": (0, 0)})
        self.assertEqual(surely_at(observer_of(ROWS, ("lu", "rd")), 1), {})
        self.assertEqual(surely_at(observer_of(("z.a",), ("l", "lr", "rl")), 0), {"a": (0, 2), "z": (0, 0)})

    def test_the_marbles_are_in_ascending_order(self):
        found = surely_at(observer_of(("z.m", "..a", "q.."), ("lu", "rlu")), MOST)
        self.assertEqual("".join(found), "amqz")

    def test_only_words_that_remain_possible_count(self):
        observer = example()
        self.assertEqual(surely_at(observer, 1), {})
        observer.see_row(1, 0, "..b")
        self.assertEqual(surely_at(observer, 1), oracle.places(oracle.after(ROWS, "rd")))

    def test_trays_without_marbles(self):
        self.assertEqual(surely_at(observer_of(("..", ".."), ("l", "u")), 1), {})

    def test_numbers_of_rounds(self):
        for rounds in NOT_ROUNDS:
            observer = used()
            self.assert_raises_and_keeps(InvalidNumber, observer, surely_at, observer, rounds)

    def test_the_dict_may_be_modified(self):
        observer = example()
        expected = dict(surely_at(observer, 0))
        surely_at(observer, 0).clear()
        self.assertEqual(surely_at(observer, 0), expected)


if __name__ == "__main__":
    unittest.main()
