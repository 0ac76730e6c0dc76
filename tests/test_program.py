"""Tests of what the document promises over the whole program (point 1)."""

import copy
import importlib
import inspect
import itertools
import unittest

import oracle
from tiltheap import errors
from tiltheap.codec import decode_tray, encode_tray, pack_bytes, unpack_bytes
from tiltheap.drawings import drawing, marble_table, parse_drawing
from tiltheap.errors import Contradiction, InvalidCount, InvalidNumber, InvalidPlace, TrayError
from tiltheap.fewest import fewest_to_meet, fewest_to_place, fewest_to_tray, places_within, trays_behind
from tiltheap.live import LiveTray, first_log_error
from tiltheap.rounds import (
    after_rounds, back_after, circles, exchange, first_unlike_round, heap_lengths, is_back, marble_after, row_lengths,
)
from tiltheap.trays import Tray
from tiltheap.watching import WordObserver, surely_at
from tiltheap.words import Word

MOST = 10 ** 18
ROWS = ("a.b", ".c.", "d..")
TEXTS = ("lu", "rd", "lurd")
FUNCTIONS = {
    "rounds": {
        "row_lengths": "tray word", "heap_lengths": "tray word", "after_rounds": "tray word times",
        "marble_after": "tray marble word times", "exchange": "tray word", "circles": "tray word",
        "back_after": "tray word", "is_back": "tray word", "first_unlike_round": "tray word other",
    },
    "fewest": {
        "fewest_to_place": "tray marble place", "fewest_to_meet": "tray one other", "fewest_to_tray": "tray goal",
        "places_within": "tray marble most", "trays_behind": "tray first count",
    },
    "live": {"first_log_error": "tray log"},
    "watching": {"surely_at": "observer rounds"},
    "drawings": {"drawing": "tray", "parse_drawing": "text", "marble_table": "tray"},
    "codec": {"pack_bytes": "values", "unpack_bytes": "data", "encode_tray": "tray", "decode_tray": "data"},
}
METHODS = {
    Word: {"short": ""},
    Tray: {"of_text": "text", "at": "place"},
    LiveTray: {
        "tilt": "tilt", "put": "marble place", "take": "marble", "undo": "", "redo": "", "apply": "*operations",
        "replay": "tray operations", "tray_after": "*operations",
    },
    WordObserver: {
        "see_marble": "rounds marble place", "see_row": "rounds row cells", "from_log": "tray words observations",
        "trays_after": "rounds", "telling_round": "limit",
    },
}
MADE_OF = {Word: "text", Tray: "*rows", LiveTray: "tray", WordObserver: "tray *words"}
PROPERTIES = {
    Word: ("text", "corner", "is_short"), Tray: ("rows", "marbles", "height", "width"),
    LiveTray: ("present_tray", "history"), WordObserver: ("candidates", "observations"),
}


def parameters(function, leave=0):
    found = list(inspect.signature(function).parameters.values())[leave:]
    return " ".join(("*" if one.kind is one.VAR_POSITIONAL else "") + one.name for one in found)


def example():
    return Tray(*ROWS)


def watching(tray=None):
    return WordObserver(tray or example(), *[Word(text) for text in TEXTS])


def plain(value):
    """Return what a value consists of, so that it can be compared later."""
    if isinstance(value, Tray):
        return value.rows
    if isinstance(value, Word):
        return value.text
    if isinstance(value, (list, tuple)):
        return [plain(one) for one in value]
    return copy.deepcopy(value)


class InterfaceTest(unittest.TestCase):
    def test_functions_have_their_names_and_arguments(self):
        for file, names in FUNCTIONS.items():
            module = importlib.import_module(f"tiltheap.{file}")
            for name, expected in names.items():
                function = getattr(module, name)
                self.assertEqual((function.__module__, parameters(function)), (module.__name__, expected), name)

    def test_classes_have_their_methods(self):
        for kind, names in METHODS.items():
            self.assertEqual(parameters(kind), MADE_OF[kind])
            for name, expected in names.items():
                self.assertIn(name, vars(kind))
                is_class_method = isinstance(vars(kind)[name], classmethod)
                self.assertEqual(is_class_method, name in ("of_text", "replay", "from_log"))
                found = parameters(getattr(kind, name), 0 if is_class_method else 1)
                self.assertEqual(found, expected, name)

    def test_classes_have_their_properties(self):
        for kind, names in PROPERTIES.items():
            for name in names:
                self.assertIsInstance(vars(kind)[name], property)


class PartsTest(unittest.TestCase):
    def test_texts_drawings_and_bytes_lead_back_to_trays(self):
        for rows, text in itertools.product(oracle.ROWS, ("", "l", "rd", "lurd")):
            tray = Tray(*rows) >> Word(text)
            self.assertEqual(parse_drawing(drawing(tray)), tray)
            self.assertEqual(decode_tray(encode_tray(tray)), tray)
            self.assertEqual(decode_tray(pack_bytes(unpack_bytes(encode_tray(tray)))), tray)
            self.assertEqual(Tray.of_text("\n".join(tray.rows)), tray)
            self.assertEqual(parse_drawing(drawing(decode_tray(encode_tray(tray)))), tray)
            self.assertEqual(len(marble_table(tray).splitlines()), len(tray.marbles))

    def test_trays_of_drawings_and_bytes_are_tilted(self):
        for tray in (parse_drawing(drawing(example())), decode_tray(encode_tray(example()))):
            self.assertEqual((tray >> Word("lu")).rows, ("ab.", "c..", "d.."))
            self.assertEqual(after_rounds(tray, Word("lurd"), 2).rows, ("..d", "..c", ".ba"))
            self.assertEqual(fewest_to_place(tray, "d", (0, 0)), "dru")
            self.assertEqual(LiveTray(tray).tilt("l"), "bc")
            self.assertEqual(watching(tray).see_row(1, 0, "..b"), 2)
            self.assertEqual(tray, example())

    def test_trays_of_live_trays(self):
        live = LiveTray(example())
        live.apply(("tilt", "l"), ("put", "z", (2, 2)), ("take", "a"))
        tray = live.present_tray
        self.assertEqual(drawing(tray), "+---+\n|.b.|\n|c..|\n|d.z|\n+---+")
        self.assertEqual(decode_tray(encode_tray(tray)), tray)
        self.assertEqual(marble_table(tray), "b  0  1\nc  1  0\nd  2  0\nz  2  2")
        observer = watching(tray)
        self.assertEqual([after.rows for after in observer.trays_after(0)], [(".b.", "c..", "d.z")])
        live.tilt("u")
        self.assertEqual(tray.rows, (".b.", "c..", "d.z"))
        self.assertEqual(LiveTray.replay(example(), live.history).present_tray, live.present_tray)

    def test_live_trays_tilt_like_words(self):
        for rows, text in itertools.product(oracle.ROWS, ("l", "rd", "lurd", "rdlurdlu")):
            tray = Tray(*rows)
            live = LiveTray(tray)
            live.apply(*[("tilt", tilt) for tilt in text])
            self.assertEqual(live.present_tray, tray >> Word(text))
            self.assertEqual(live.present_tray, after_rounds(tray, Word(text), 1))
            log = []
            present = tray
            for tilt in text:
                present = present >> Word(tilt)
                log.append((tilt, {marble: present(marble) for marble in present.marbles}))
            self.assertIsNone(first_log_error(tray, log))

    def test_the_fewest_tilts_are_words(self):
        for rows in oracle.ROWS:
            tray = Tray(*rows)
            for marble, place in itertools.product(tray.marbles, itertools.product(range(tray.height), range(tray.width))):
                tilts = fewest_to_place(tray, marble, place)
                if tilts is not None:
                    self.assertTrue(Word(tilts).is_short)
                    self.assertEqual((tray >> Word(tilts)).at(place), marble)
                    self.assertIn(place, places_within(tray, marble, len(tilts)))
                    self.assertEqual(marble_after(tray, marble, Word(tilts), 1), place)
            for goal in trays_behind(tray, "r", 5):
                self.assertEqual(tray >> Word(fewest_to_tray(tray, goal)), goal)
                self.assertEqual(parse_drawing(drawing(goal)), goal)

    def test_trays_of_observers_are_those_after_rounds(self):
        for rows, rounds in itertools.product(oracle.ROWS, (0, 1, 2, 9, MOST)):
            tray = Tray(*rows)
            observer = watching(tray)
            for after in observer.trays_after(rounds):
                numbers = [
                    number for number in observer.candidates
                    if after_rounds(tray, Word(TEXTS[number]), rounds) == after
                ]
                other = WordObserver.from_log(tray, [Word(text) for text in TEXTS], observer.observations)
                for row, cells in enumerate(after.rows):
                    other.see_row(rounds, row, cells)
                self.assertEqual(other.candidates, numbers)
                self.assertEqual(decode_tray(encode_tray(after)), after)

    def test_what_is_sure_teaches_nothing(self):
        for rows, rounds in itertools.product(oracle.ROWS, (0, 1, 2, 9, MOST)):
            observer = watching(Tray(*rows))
            for marble, place in surely_at(observer, rounds).items():
                self.assertEqual(observer.see_marble(rounds, marble, place), 3)

    def test_one_word_is_sure_of_all_marbles(self):
        for rows, text, rounds in itertools.product(oracle.ROWS, ("lu", "rdlu"), (0, 1, 5, MOST)):
            tray = Tray(*rows)
            sure = surely_at(WordObserver(tray, Word(text)), rounds)
            expected = {marble: marble_after(tray, marble, Word(text), rounds) for marble in tray.marbles}
            self.assertEqual(sure, expected)

    def test_words_that_are_unlike_can_be_told_apart(self):
        for rows, one, other in itertools.product(oracle.ROWS, ("lu", "dlur", "rdlu"), ("rlu", "r", "rdlurdlu")):
            observer = WordObserver(Tray(*rows), Word(one), Word(other))
            unlike = first_unlike_round(Tray(*rows), Word(one), Word(other))
            self.assertEqual(observer.telling_round(200), unlike or 0)

    def test_short_words_cannot_be_told_from_their_words(self):
        for text in ("lurl", "lrul", "uuddlr", "rdlurdlu", "lurdrulddlru"):
            observer = WordObserver(example(), Word(text), Word(text).short())
            self.assertEqual(observer.telling_round(200), 0)
            self.assertEqual(len(observer.trays_after(MOST)), 1)

    def test_places_of_exchange_are_those_of_trays(self):
        for rows in oracle.ROWS:
            tray, word = Tray(*rows), Word("rdlu")
            first = tray >> word
            for place, later in exchange(tray, word).items():
                self.assertEqual((first >> word)(first.at(place)), later)
            self.assertEqual("".join(sorted("".join(circles(tray, word)))), tray.marbles)
            self.assertEqual(after_rounds(tray, word, back_after(tray, word) + 1), first)


class NumbersTest(unittest.TestCase):
    def test_true_and_false_are_not_numbers(self):
        tray, word, observer = example(), Word("lu"), watching()
        for value in (True, False):
            for call in (
                lambda: word[value], lambda: word * value, lambda: after_rounds(tray, word, value),
                lambda: marble_after(tray, "a", word, value), lambda: places_within(tray, "a", value),
                lambda: list(trays_behind(tray, "l", value)), lambda: observer.see_marble(value, "a", (0, 0)),
                lambda: observer.see_row(value, 0, "a.b"), lambda: observer.trays_after(value),
                lambda: observer.telling_round(value), lambda: surely_at(observer, value),
            ):
                with self.assertRaises(InvalidNumber):
                    call()
            for call in (
                lambda: tray.at((value, 0)), lambda: fewest_to_place(tray, "a", (0, value)),
                lambda: LiveTray(tray).put("z", (value, 1)), lambda: observer.see_marble(0, "a", (0, value)),
                lambda: observer.see_row(0, value, "a.b"),
            ):
                with self.assertRaises(InvalidPlace):
                    call()
            with self.assertRaises(InvalidCount):
                pack_bytes([value])
        self.assertEqual((observer.candidates, observer.observations), ([0, 1, 2], []))

    def test_numbers_of_rounds_go_up_to_their_limit(self):
        tray, word, observer = example(), Word("lu"), watching()
        for call in (
            lambda rounds: after_rounds(tray, word, rounds), lambda rounds: marble_after(tray, "a", word, rounds),
            observer.trays_after, lambda rounds: surely_at(observer, rounds),
            lambda rounds: observer.see_marble(rounds, "c", (1, 0)), lambda rounds: observer.see_row(rounds, 0, "ab."),
        ):
            for rounds in (-1, MOST + 1, 10 ** 40, None, "1", (1,), [1]):
                with self.assertRaises(InvalidNumber):
                    call(rounds)
            call(MOST)


class ErrorsTest(unittest.TestCase):
    def test_all_errors_are_raised_somewhere(self):
        live, observer, tray = LiveTray(example()), watching(), example()
        raised = set()
        for call in (
            lambda: Word("x"), lambda: Tray(), lambda: tray("e"), lambda: tray.at(None), lambda: Word("")[0],
            lambda: fewest_to_meet(tray, "a", "a"), lambda: live.tilt("x"), lambda: live.put("a", (0, 1)),
            lambda: live.apply(None), lambda: observer.see_row(0, 0, ""), lambda: parse_drawing(""),
            lambda: pack_bytes(None), lambda: decode_tray(b""), lambda: [live.tray_after() for _ in [live.__enter__()]],
        ):
            with self.assertRaises(TrayError) as caught:
                call()
            self.assertIsInstance(caught.exception, ValueError)
            raised.add(type(caught.exception).__name__)
        defined = {name for name, value in vars(errors).items() if isinstance(value, type)}
        self.assertEqual(raised, defined - {"TrayError"})


class RepeatedCallsTest(unittest.TestCase):
    def calls(self):
        tray, word, other = example(), Word("lurd"), Word("rdlu")
        observer = watching(tray)
        observer.see_row(1, 0, "..b")
        live = LiveTray.replay(tray, [("tilt", "l"), ("take", "a")])
        return [
            lambda: tray >> word, lambda: tray.rows, lambda: word.short(), lambda: word + other, lambda: -word,
            lambda: row_lengths(tray, word), lambda: heap_lengths(tray, word), lambda: after_rounds(tray, word, MOST),
            lambda: exchange(tray, word), lambda: circles(tray, other), lambda: back_after(tray, other),
            lambda: is_back(tray, other), lambda: first_unlike_round(tray, word, other),
            lambda: fewest_to_place(tray, "d", (0, 0)), lambda: fewest_to_tray(tray, tray >> other),
            lambda: places_within(tray, "c", 3), lambda: list(trays_behind(tray, "r", 7)),
            lambda: live.history, lambda: live.present_tray, lambda: live.tray_after(("tilt", "d")),
            lambda: observer.candidates, lambda: observer.observations, lambda: observer.trays_after(MOST),
            lambda: observer.telling_round(200), lambda: surely_at(observer, 1), lambda: drawing(tray),
            lambda: parse_drawing(drawing(tray)), lambda: marble_table(tray), lambda: encode_tray(tray),
            lambda: decode_tray(encode_tray(tray)), lambda: unpack_bytes(b"\x01\x02"), lambda: pack_bytes([1, 2]),
        ]

    def test_calls_return_equal_values_in_any_order(self):
        calls = self.calls()
        results = [call() for call in calls]
        kept = plain(results)
        self.assertEqual([plain(call()) for call in reversed(calls)], kept[::-1])
        self.assertEqual(plain(results), kept)

    def test_returned_lists_and_dicts_may_be_modified(self):
        for call in self.calls():
            expected, returned = plain(call()), call()
            if isinstance(returned, (list, dict)):
                returned.clear()
            self.assertEqual(plain(call()), expected)

    def test_results_of_earlier_calls_stay(self):
        live, observer = LiveTray(example()), watching()
        results = [live.apply(("tilt", "u")), live.history, live.present_tray, observer.candidates,
                   observer.observations, observer.trays_after(1), surely_at(observer, 0)]
        kept = plain(results)
        live.tilt("r")
        live.undo()
        live.undo()
        live.take("a")
        observer.see_row(1, 0, "..b")
        observer.see_marble(2, "a", (2, 2))
        self.assertEqual(plain(results), kept)

    def test_calls_that_raise_change_nothing(self):
        live, observer = LiveTray(example()), watching()
        live.tilt("u")
        observer.see_row(1, 0, "..b")
        before = (live.present_tray.rows, live.history, observer.candidates, observer.observations)
        for call, error in (
            (lambda: live.apply(("take", "a"), ("take", "a")), errors.UnknownMarble),
            (lambda: live.apply(("take", "a"), ("take",)), errors.InvalidOperation),
            (lambda: observer.see_row(1, 0, "ab."), Contradiction),
            (lambda: observer.see_marble(1, "a", (0, 0)), Contradiction),
            (lambda: observer.see_marble(1, "a", [0, 0]), InvalidPlace),
        ):
            with self.assertRaises(error):
                call()
            after = (live.present_tray.rows, live.history, observer.candidates, observer.observations)
            self.assertEqual(after, before)


if __name__ == "__main__":
    unittest.main()
