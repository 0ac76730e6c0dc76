"""Tests of words (points 1, 2 and 3)."""

import itertools
import unittest

from tiltheap.errors import InvalidNumber, InvalidWord
from tiltheap.trays import Tray
from tiltheap.words import Word

NOT_STRINGS = (None, True, False, 0, 1, -1, 10 ** 30, 1.5, (), ("l",), [], ["l", "u"], b"lu", {"l": 1})
NOT_NUMBERS = (None, True, False, 1.0, "", "1", (), (1,), [], [1])


def all_texts(most):
    for length in range(most + 1):
        for tilts in itertools.product("lrud", repeat=length):
            yield "".join(tilts)


def raised_index(text):
    try:
        Word(text)
    except InvalidWord as error:
        return error.index
    return None


class InterfaceTest(unittest.TestCase):
    def test_example_of_words(self):
        word = Word("lu") + Word("r") * 2
        self.assertEqual(
            [word.text, len(word), word[2], "d" in word, word.corner, (-word).text, Word("lr").corner],
            ["lurr", 4, "r", False, "ur", "rdll", None],
        )

    def test_example_of_an_invalid_word(self):
        with self.assertRaises(InvalidWord) as caught:
            Word("lux")
        self.assertEqual(caught.exception.index, 2)

    def test_example_of_short(self):
        self.assertEqual(
            [Word("lrudl").short().text, Word("lurl").short().text, Word("lurd").is_short],
            ["rdl", "lu", True],
        )

    def test_all_that_is_listed_is_defined_in_the_class(self):
        self.assertEqual(Word.__module__, "tiltheap.words")
        for name in ("text", "corner", "is_short"):
            self.assertIsInstance(vars(Word)[name], property)
        for name in ("__init__", "__len__", "__getitem__", "__contains__", "__add__",
                     "__mul__", "__neg__", "__eq__", "short", "MAX_TILTS"):
            self.assertIn(name, vars(Word))

    def test_argument_has_its_name(self):
        self.assertEqual(Word(text="lu").text, "lu")


class MakingTest(unittest.TestCase):
    def test_text_is_the_string(self):
        for text in ("", "l", "r", "u", "d", "lrud", "uuuu", "ldrul"):
            self.assertEqual(Word(text).text, text)

    def test_sixty_letters_are_allowed(self):
        self.assertEqual(Word.MAX_TILTS, 60)
        self.assertEqual(Word("lu" * 30).text, "lu" * 30)
        self.assertEqual(len(Word("d" * 60)), 60)

    def test_a_sixty_first_letter_is_reported(self):
        self.assertEqual(raised_index("l" * 61), 60)
        self.assertEqual(raised_index("lrud" * 1000), 60)
        self.assertEqual(raised_index("l" * 60 + "x"), 60)

    def test_the_first_invalid_character_is_reported(self):
        self.assertEqual(raised_index("x"), 0)
        self.assertEqual(raised_index("lux"), 2)
        self.assertEqual(raised_index("lxuy"), 1)
        self.assertEqual(raised_index("l" * 59 + "x" + "l"), 59)
        self.assertEqual(raised_index("l" * 70 + "x"), 60)

    def test_nearly_right_characters_are_invalid(self):
        for letter in ("L", "R", "U", "D", " ", "\n", "", ".", "0", "\u217c", "\U0001d4c1", "a", "z", "e"):
            text = "lu" + letter + "d"
            self.assertEqual(raised_index(text), 2 if letter else None)

    def test_what_is_not_a_string_is_reported_at_zero(self):
        for value in NOT_STRINGS + (Word("lu"),):
            with self.subTest(value=value):
                self.assertEqual(raised_index(value), 0)

    def test_words_cannot_be_assigned_to(self):
        word = Word("lu")
        for name, value in (("text", "r"), ("corner", "dr"), ("is_short", False)):
            with self.assertRaises(AttributeError):
                setattr(word, name, value)
        with self.assertRaises(TypeError):
            word[0] = "r"
        self.assertEqual(word.text, "lu")


class CornerTest(unittest.TestCase):
    def test_last_tilts_along_both_axes(self):
        for text, corner in (("lu", "ul"), ("ul", "ul"), ("rd", "dr"), ("lurd", "dr"),
                             ("lruudl", "dl"), ("udr", "dr"), ("lru", "ur")):
            with self.subTest(text=text):
                self.assertEqual(Word(text).corner, corner)

    def test_none_if_an_axis_is_missing(self):
        for text in ("", "l", "r", "u", "d", "lr", "rrl", "ud", "dudu"):
            with self.subTest(text=text):
                self.assertIsNone(Word(text).corner)


class IndexTest(unittest.TestCase):
    def test_tilts_count_from_zero(self):
        word = Word("lurd")
        self.assertEqual([word[0], word[1], word[2], word[3]], ["l", "u", "r", "d"])

    def test_numbers_beyond_the_word(self):
        for text, index in (("", 0), ("", -1), ("l", 1), ("l", -1), ("lu", 2), ("lu", -2), ("lu", 10 ** 30)):
            with self.subTest(text=text, index=index):
                with self.assertRaises(InvalidNumber):
                    Word(text)[index]

    def test_what_is_not_a_number(self):
        for index in NOT_NUMBERS + (slice(0, 1),):
            with self.subTest(index=index):
                with self.assertRaises(InvalidNumber):
                    Word("lu")[index]


class ContainsTest(unittest.TestCase):
    def test_tilts(self):
        word = Word("lul")
        found = [tilt in word for tilt in "lrud"]
        self.assertEqual(found, [True, False, True, False])
        self.assertFalse("l" in Word(""))

    def test_the_answer_is_true_or_false(self):
        self.assertIs(Word("l").__contains__("l"), True)
        self.assertIs(Word("l").__contains__("u"), False)

    def test_what_is_not_a_tilt(self):
        word = Word("lurd")
        for value in NOT_STRINGS + ("", "lu", "lurd", "L", "x", Word("l"), word):
            with self.subTest(value=value):
                self.assertFalse(value in word)
        self.assertFalse("" in Word(""))


class OperatorsTest(unittest.TestCase):
    def test_sum(self):
        self.assertEqual((Word("lu") + Word("ur")).text, "luur")
        self.assertEqual((Word("") + Word("ur")).text, "ur")
        self.assertEqual((Word("ur") + Word("")).text, "ur")
        self.assertEqual((Word("") + Word("")).text, "")
        self.assertIsInstance(Word("l") + Word("l"), Word)

    def test_longest_sum(self):
        self.assertEqual((Word("l" * 59) + Word("u")).text, "l" * 59 + "u")
        for one, other in ((60, 1), (1, 60), (60, 60), (31, 30)):
            with self.subTest(one=one, other=other):
                with self.assertRaises(InvalidWord) as caught:
                    Word("l" * one) + Word("u" * other)
                self.assertEqual(caught.exception.index, 60)

    def test_sum_with_what_is_not_a_word(self):
        for value in NOT_STRINGS + ("", "lu", "lux", Tray("a")):
            with self.subTest(value=value):
                with self.assertRaises(InvalidWord) as caught:
                    Word("lu") + value
                self.assertEqual(caught.exception.index, 0)

    def test_multiple(self):
        self.assertEqual((Word("lu") * 3).text, "lululu")
        self.assertEqual((Word("lu") * 1).text, "lu")
        self.assertEqual((Word("lu") * 0).text, "")
        self.assertEqual((Word("") * 60).text, "")
        self.assertIsInstance(Word("l") * 2, Word)

    def test_longest_multiple(self):
        self.assertEqual((Word("u") * 60).text, "u" * 60)
        self.assertEqual((Word("lurd") * 15).text, "lurd" * 15)
        for text, times in (("lu", 31), ("lurd", 16), ("l" * 60, 2), ("l" * 60, 60)):
            with self.subTest(text=text, times=times):
                with self.assertRaises(InvalidWord) as caught:
                    Word(text) * times
                self.assertEqual(caught.exception.index, 60)

    def test_number_of_times(self):
        for text in ("", "l", "lu", "l" * 60):
            for times in NOT_NUMBERS + (-1, 61, 10 ** 30, Word("l")):
                with self.subTest(text=text, times=times):
                    with self.assertRaises(InvalidNumber):
                        Word(text) * times

    def test_opposite_tilts_stay_in_order(self):
        self.assertEqual((-Word("lrud")).text, "rldu")
        self.assertEqual((-Word("lurr")).text, "rdll")
        self.assertEqual((-Word("")).text, "")
        self.assertEqual((-Word("d" * 60)).text, "u" * 60)
        self.assertIsInstance(-Word("l"), Word)

    def test_operators_leave_their_words(self):
        word, other = Word("lu"), Word("rd")
        word + other
        word * 5
        -word
        word.short()
        with self.assertRaises(InvalidWord):
            word * 60
        with self.assertRaises(InvalidNumber):
            word * 61
        self.assertEqual([word.text, other.text], ["lu", "rd"])

    def test_repeated_calls_return_equal_values(self):
        word = Word("lurl")
        self.assertEqual(word + word, word + word)
        self.assertEqual(word * 3, word * 3)
        self.assertEqual(-word, -word)
        self.assertEqual(word.short(), word.short())
        self.assertEqual([word.text, word.corner, word.is_short], [word.text, word.corner, word.is_short])


class EqualityTest(unittest.TestCase):
    def test_equal_tilts(self):
        self.assertTrue(Word("lu") == Word("lu"))
        self.assertFalse(Word("lu") != Word("lu"))
        self.assertTrue(Word("") == Word(""))

    def test_other_tilts(self):
        for text in ("", "l", "ul", "lul", "rd"):
            self.assertFalse(Word("lu") == Word(text))
            self.assertTrue(Word("lu") != Word(text))
        self.assertFalse(Word("lurl") == Word("lu"))

    def test_what_is_not_a_word(self):
        for value in NOT_STRINGS + ("lu", ["l", "u"], ("l", "u"), Tray("a")):
            with self.subTest(value=value):
                self.assertIs(Word("lu") == value, False)
                self.assertIs(value == Word("lu"), False)
                self.assertIs(Word("lu") != value, True)
        self.assertFalse(Word("") == "")


class WalkTest(unittest.TestCase):
    def test_words_cannot_be_walked(self):
        for text in ("", "lurd"):
            word = Word(text)
            with self.assertRaises(TypeError):
                for tilt in word:
                    self.fail(tilt)
            for walk in (iter, list, tuple, sorted, set, "".join, all):
                with self.assertRaises(TypeError):
                    walk(word)
            with self.assertRaises(TypeError):
                [*word]


def needless_by_definition(text):
    """Tell whether a tilt is directly before one along its axis, or repeats the last one along it."""
    for index, tilt in enumerate(text):
        axis = "lr" if tilt in "lr" else "ud"
        if index and text[index - 1] in axis:
            return True
        before = [other for other in text[:index] if other in axis]
        if before and before[-1] == tilt:
            return True
    return False


class ShortTest(unittest.TestCase):
    def test_known_words(self):
        for text, short in (
            ("", ""), ("l", "l"), ("ll", "l"), ("lr", "r"), ("lrlr", "r"), ("ud", "d"),
            ("lu", "lu"), ("lul", "lu"), ("lulu", "lu"), ("lurl", "lu"), ("lrul", "rul"),
            ("lrudl", "rdl"), ("lurd", "lurd"), ("lurdl", "lurdl"), ("lurdu", "lur"),
            ("lurdul", "lu"), ("lurdulr", "lur"), ("uulld", "uld"), ("lulr", "lur"),
        ):
            with self.subTest(text=text):
                self.assertEqual(Word(text).short().text, short)

    def test_short_returns_a_word(self):
        self.assertIsInstance(Word("ll").short(), Word)
        self.assertIsInstance(Word("").short(), Word)

    def test_short_leaves_the_word(self):
        word = Word("lurl")
        word.short()
        self.assertEqual(word.text, "lurl")

    def test_longest_words(self):
        self.assertEqual(Word("lurd" * 15).short().text, "lurd" * 15)
        self.assertTrue(Word("lurd" * 15).is_short)
        self.assertEqual(Word("l" * 60).short().text, "l")
        self.assertEqual(Word("lu" * 30).short().text, "lu")
        self.assertFalse(Word("lu" * 30).is_short)

    def test_is_short_tells_whether_there_is_a_needless_tilt(self):
        for text in all_texts(6):
            self.assertIs(Word(text).is_short, not needless_by_definition(text), text)

    def test_short_words_have_no_needless_tilts(self):
        for text in all_texts(6):
            short = Word(text).short()
            self.assertTrue(short.is_short, text)
            self.assertEqual(short.short(), short, text)
            if Word(text).is_short:
                self.assertEqual(short.text, text)

    def test_short_words_do_the_same(self):
        tray = Tray("a.b.", ".c.d", "e..f", "..g.")
        for text in all_texts(6):
            word = Word(text)
            self.assertEqual((tray >> word).rows, (tray >> word.short()).rows, text)
            if word.corner is not None:
                self.assertEqual(word.short().corner, word.corner, text)


if __name__ == "__main__":
    unittest.main()
