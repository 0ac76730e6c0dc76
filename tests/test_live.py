"""Tests of live trays and logs (points 1, 10, 11 and 12)."""

import unittest

import oracle
from tiltheap import live as live_module
from tiltheap.errors import (
    AlreadyOpen, InvalidMarble, InvalidOperation, InvalidPlace, InvalidTilt, TrayError, UnknownMarble,
)
from tiltheap.live import LiveTray, first_log_error
from tiltheap.trays import Tray
from tiltheap.words import Word

ROWS = ("a.b", ".c.", "d..")
NOT_OPERATIONS = oracle.NOT_STRINGS + (
    "tilt", ("tilt",), ("tilt", "l", "u"), ("put",), ("put", "z"), ("put", "z", (0, 1), 1), ("put", "z", 0, 1),
    ("take",), ("take", "a", "b"), ("undo",), ("redo",), ("apply",), ("apply", ("tilt", "l")), ("history",),
    ("tilts", "l"), ("Tilt", "l"), ("", "l"), ("til", "l"), (None, "l"), (True, "l"), (0, "l"), (["tilt"], "l"),
    (("tilt",), "l"), (oracle.ENDLESS, "l"), ["tilt", "l"], ["take", "a"], ("replay", "a"), ("tray_after", "l"),
    ("present_tray",), ("__len__",), ("__contains__", "a"), "tilt l", ("t", "l"),
)


def example():
    return LiveTray(Tray(*ROWS))


def used():
    """Return a live tray with two operations in effect and two that are undone."""
    live = example()
    live.apply(("tilt", "u"), ("take", "b"), ("put", "x", (2, 2)), ("tilt", "r"))
    live.undo()
    live.undo()
    return live


def future(live):
    """Return what redo can execute, and leave the live tray as it was."""
    many = 0
    while live.redo():
        many += 1
    operations = live.history
    for _ in range(many):
        live.undo()
    return operations[len(operations) - many:]


def state(live):
    return live.present_tray.rows, live.history, future(live)


class LiveTest(unittest.TestCase):
    def assert_raises_and_keeps(self, error, live, call, *arguments):
        before = state(live)
        with self.assertRaises(error) as caught:
            call(*arguments)
        self.assertEqual(state(live), before)
        return caught.exception


class InterfaceTest(LiveTest):
    def test_example_of_tilts(self):
        live = example()
        self.assertEqual([live.tilt("l"), live.present_tray.rows, live.tilt("l")], ["bc", ("ab.", "c..", "d.."), ""])

    def test_example_of_an_invalid_tilt(self):
        live = example()
        self.assert_raises_and_keeps(InvalidTilt, live, live.tilt, "x")

    def test_example_of_put_and_take(self):
        live = example()
        self.assertEqual([live.put("z", (1, 2)), live.take("a"), len(live), "a" in live], [5, (0, 0), 4, False])

    def test_examples_of_wrong_puts(self):
        live = example()
        error = self.assert_raises_and_keeps(InvalidMarble, live, live.put, "a", (1, 2))
        self.assertEqual(error.marble, "a")
        self.assert_raises_and_keeps(InvalidPlace, live, live.put, "z", (1, 1))

    def test_example_of_the_history(self):
        live = example()
        live.take("d")
        self.assertEqual([live.present_tray.rows, live.history], [("a.b", ".c.", "..."), [("take", "d")]])

    def test_example_of_undo_and_redo(self):
        live = example()
        live.take("d")
        self.assertEqual([live.undo(), live.undo(), live.redo(), len(live)], [True, False, True, 3])

    def test_examples_of_apply(self):
        live = example()
        self.assertEqual(live.apply(("tilt", "u"), ("take", "b")), ["cd", (0, 2)])
        live = example()
        error = self.assert_raises_and_keeps(InvalidOperation, live, live.apply, ("tilt", "u"), ("tilt",))
        self.assertEqual(error.index, 1)

    def test_example_of_replay(self):
        other = LiveTray.replay(Tray(*ROWS), [("tilt", "u")])
        self.assertEqual(other.present_tray.rows, ("acb", "d..", "..."))

    def test_example_of_tray_after(self):
        tray = Tray(*ROWS)
        live = LiveTray(tray)
        self.assertEqual(
            [live.tray_after(("tilt", "d")).rows, live.present_tray == tray],
            [("...", "a..", "dcb"), True],
        )

    def test_example_of_logs(self):
        log = [("r", {"a": (0, 1)}), ("l", {"a": (0, 1)})]
        self.assertEqual(first_log_error(Tray("a."), log), 1)

    def test_all_that_is_listed_is_defined_in_the_class(self):
        self.assertEqual(LiveTray.__module__, "tiltheap.live")
        self.assertEqual(live_module.first_log_error.__module__, "tiltheap.live")
        for name in ("present_tray", "history"):
            self.assertIsInstance(vars(LiveTray)[name], property)
        self.assertIsInstance(vars(LiveTray)["replay"], classmethod)
        for name in ("__init__", "__contains__", "__len__", "__enter__", "__exit__",
                     "tilt", "put", "take", "undo", "redo", "apply", "tray_after"):
            self.assertIn(name, vars(LiveTray))

    def test_arguments_have_their_names(self):
        live = LiveTray(tray=Tray("a."))
        self.assertEqual(live.tilt(tilt="r"), "a")
        self.assertEqual(live.put(marble="b", place=(0, 0)), 2)
        self.assertEqual(live.take(marble="a"), (0, 1))
        self.assertEqual(LiveTray.replay(tray=Tray("a."), operations=[]).history, [])
        self.assertIsNone(first_log_error(tray=Tray("a."), log=[]))


class TiltTest(LiveTest):
    def test_each_tilt(self):
        for rows in oracle.ROWS:
            for tilt in "lrud":
                live = LiveTray(Tray(*rows))
                before, after = oracle.places(rows), oracle.places(oracle.tilted(rows, tilt))
                moved = "".join(marble for marble in sorted(before) if before[marble] != after[marble])
                self.assertEqual(live.tilt(tilt), moved)
                self.assertEqual(live.present_tray.rows, oracle.tilted(rows, tilt))
                self.assertEqual(live.history, [("tilt", tilt)])

    def test_marbles_that_move_are_in_ascending_order(self):
        self.assertEqual(LiveTray(Tray(".z.a", ".m..")).tilt("l"), "amz")

    def test_a_tilt_that_moves_nothing_is_an_operation(self):
        live = LiveTray(Tray("a."))
        self.assertEqual(live.tilt("l"), "")
        self.assertEqual(live.history, [("tilt", "l")])
        self.assertTrue(live.undo())
        self.assertFalse(live.undo())

    def test_invalid_tilts(self):
        for tilt in oracle.NOT_TILTS + (Word("l"),):
            live = used()
            self.assert_raises_and_keeps(InvalidTilt, live, live.tilt, tilt)


class PutTest(LiveTest):
    def test_marbles_are_put(self):
        live = LiveTray(Tray("..", ".b"))
        self.assertEqual(live.put("z", (0, 1)), 2)
        self.assertEqual(live.put("a", (1, 0)), 3)
        self.assertEqual(live.present_tray.rows, (".z", "ab"))
        self.assertEqual(live.history, [("put", "z", (0, 1)), ("put", "a", (1, 0))])
        self.assertEqual(LiveTray(Tray(".")).put("q", (0, 0)), 1)

    def test_all_letters(self):
        live = LiveTray(Tray(*["........"] * 4))
        for many, marble in enumerate("zyxwvutsrqponmlkjihgfedcba"):
            self.assertEqual(live.put(marble, divmod(many, 8)), many + 1)
        self.assertEqual(live.present_tray.rows, ("zyxwvuts", "rqponmlk", "jihgfedc", "ba......"))
        for marble in "abcdefghijklmnopqrstuvwxyz":
            self.assert_raises_and_keeps(InvalidMarble, live, live.put, marble, (3, 7))

    def test_invalid_marbles(self):
        for marble in oracle.NOT_MARBLES + ("a", "d", "B", "`", "{", "\u00e9", "\uff41"):
            live = used()
            error = self.assert_raises_and_keeps(InvalidMarble, live, live.put, marble, (2, 1))
            self.assertIs(error.marble, marble)

    def test_places_that_do_not_exist_or_are_taken(self):
        for place in oracle.NOT_PLACES + ((3, 0), (0, 3), (0, 0), (0, 1), (1, 0)):
            live = used()
            self.assert_raises_and_keeps(InvalidPlace, live, live.put, "z", place)

    def test_the_marble_is_checked_ahead_of_the_place(self):
        for place in oracle.NOT_PLACES + ((0, 0),):
            live = used()
            error = self.assert_raises_and_keeps(InvalidMarble, live, live.put, "a", place)
            self.assertEqual(error.marble, "a")


class TakeTest(LiveTest):
    def test_marbles_are_taken(self):
        live = example()
        self.assertEqual([live.take("c"), live.take("b"), len(live)], [(1, 1), (0, 2), 2])
        self.assertEqual(live.present_tray.rows, ("a..", "...", "d.."))
        self.assertEqual(live.history, [("take", "c"), ("take", "b")])
        self.assertEqual([live.take("a"), live.take("d"), len(live)], [(0, 0), (2, 0), 0])

    def test_a_marble_can_be_put_again(self):
        live = example()
        live.take("a")
        self.assertEqual(live.put("a", (2, 2)), 4)
        self.assertEqual(live.present_tray.rows, ("..b", ".c.", "d.a"))

    def test_unknown_marbles(self):
        for marble in oracle.NOT_MARBLES + ("b", "e", "x"):
            live = used()
            error = self.assert_raises_and_keeps(UnknownMarble, live, live.take, marble)
            self.assertIs(error.marble, marble)


class SignsTest(LiveTest):
    def test_in(self):
        live = used()
        self.assertEqual([marble for marble in "abcdxz" if marble in live], ["a", "c", "d"])
        live.put("z", (2, 2))
        self.assertIs(live.__contains__("z"), True)
        self.assertIs(live.__contains__("b"), False)

    def test_in_is_false_for_anything_else(self):
        live = LiveTray(Tray("ab.", "c.."))
        for value in oracle.NOT_MARBLES + ("abc", "ab.", (0, 0), Tray("a"), live):
            self.assertIs(live.__contains__(value), False)

    def test_len(self):
        self.assertEqual([len(example()), len(used()), len(LiveTray(Tray("..")))], [4, 3, 0])

    def test_present_tray(self):
        tray = Tray(*ROWS)
        live = LiveTray(tray)
        self.assertEqual(live.present_tray, tray)
        self.assertIsInstance(live.present_tray, Tray)
        live.tilt("d")
        self.assertEqual(tray.rows, ROWS)
        self.assertIsInstance(live.present_tray, Tray)

    def test_properties_cannot_be_assigned(self):
        live = example()
        for name, value in (("present_tray", Tray("a")), ("history", [])):
            with self.assertRaises(AttributeError):
                setattr(live, name, value)

    def test_the_history_may_be_modified(self):
        live = used()
        self.assertIsInstance(live.history, list)
        live.history.clear()
        live.history.append(("tilt", "l"))
        self.assertEqual(live.history, [("tilt", "u"), ("take", "b")])


class UndoTest(LiveTest):
    def test_nothing_to_undo_or_redo(self):
        live = example()
        self.assertIs(live.undo(), False)
        self.assertIs(live.redo(), False)
        self.assertEqual(state(live), (ROWS, [], []))

    def test_all_operations_are_undone_and_executed_again(self):
        live = example()
        operations = [("tilt", "u"), ("put", "z", (2, 2)), ("take", "a"), ("tilt", "l"), ("tilt", "l"), ("take", "z")]
        trays = [live.present_tray.rows]
        for operation in operations:
            live.apply(operation)
            trays.append(live.present_tray.rows)
        for many in range(len(operations), 0, -1):
            self.assertEqual((live.present_tray.rows, live.history), (trays[many], operations[:many]))
            self.assertIs(live.undo(), True)
        self.assertEqual((live.present_tray.rows, live.history), (ROWS, []))
        self.assertIs(live.undo(), False)
        for many in range(1, len(operations) + 1):
            self.assertIs(live.redo(), True)
            self.assertEqual((live.present_tray.rows, live.history), (trays[many], operations[:many]))
        self.assertIs(live.redo(), False)
        self.assertEqual((live.present_tray.rows, live.history), (trays[-1], operations))

    def test_an_operation_ends_what_can_be_executed_again(self):
        for operation in (("tilt", "u"), ("put", "z", (2, 2)), ("take", "a")):
            live = used()
            live.apply(operation)
            self.assertIs(live.redo(), False)
            self.assertEqual(live.history, [("tilt", "u"), ("take", "b"), operation])
            self.assertEqual([live.undo(), live.undo(), live.undo(), live.undo()], [True, True, True, False])
            self.assertEqual(live.present_tray.rows, ROWS)

    def test_each_method_ends_what_can_be_executed_again(self):
        for name, arguments in (("tilt", ("u",)), ("put", ("z", (2, 2))), ("take", ("a",))):
            live = used()
            getattr(live, name)(*arguments)
            self.assertIs(live.redo(), False)
            self.assertEqual(live.history[-1], (name, *arguments))

    def test_an_operation_that_fails_keeps_what_can_be_executed_again(self):
        live = used()
        self.assert_raises_and_keeps(InvalidTilt, live, live.tilt, "x")
        self.assert_raises_and_keeps(UnknownMarble, live, live.take, "b")
        self.assertEqual(future(live), [("put", "x", (2, 2)), ("tilt", "r")])

    def test_undo_between_operations(self):
        live = example()
        live.tilt("r")
        live.undo()
        live.tilt("u")
        live.tilt("r")
        live.undo()
        self.assertEqual((live.present_tray.rows, live.history), (oracle.tilted(ROWS, "u"), [("tilt", "u")]))
        self.assertIs(live.redo(), True)
        self.assertEqual(live.present_tray.rows, oracle.after(ROWS, "ur"))

    def test_many_operations(self):
        live = example()
        for _ in range(500):
            live.tilt("r")
            live.tilt("u")
        self.assertEqual(len(live.history), 1000)
        self.assertEqual([live.undo() for _ in range(1001)], [True] * 1000 + [False])
        self.assertEqual(live.present_tray.rows, ROWS)


class ApplyTest(LiveTest):
    def test_results_are_those_of_the_methods(self):
        live = example()
        found = live.apply(("put", "z", (1, 0)), ("tilt", "r"), ("take", "a"), ("take", "z"), ("tilt", "r"))
        self.assertEqual(found, [5, "acdz", (0, 1), (1, 1), ""])
        self.assertIsInstance(found, list)
        found.clear()
        self.assertEqual(len(live.history), 5)

    def test_undo_takes_back_one_of_its_operations(self):
        live = example()
        live.apply(("tilt", "u"), ("take", "b"), ("tilt", "d"))
        live.undo()
        self.assertEqual(live.history, [("tilt", "u"), ("take", "b")])
        self.assertEqual(live.present_tray.rows, ("ac.", "d..", "..."))

    def test_without_operations(self):
        for live in (example(), used()):
            before = state(live)
            self.assertEqual(live.apply(), [])
            self.assertEqual(state(live), before)

    def test_what_is_not_an_operation(self):
        for value in NOT_OPERATIONS:
            for before in ((), (("tilt", "u"),), (("tilt", "u"), ("take", "a"))):
                live = used()
                error = self.assert_raises_and_keeps(InvalidOperation, live, live.apply, *before, value, None)
                self.assertEqual(error.index, len(before))

    def test_operations_are_looked_at_before_anything_is_executed(self):
        live = used()
        error = self.assert_raises_and_keeps(InvalidOperation, live, live.apply, ("tilt", "x"), ("take", "e"), ("take",))
        self.assertEqual(error.index, 2)

    def test_an_operation_that_fails(self):
        for operation, kind in (
            (("tilt", "x"), InvalidTilt), (("tilt", None), InvalidTilt), (("take", "b"), UnknownMarble),
            (("take", ["a"]), UnknownMarble), (("put", "a", (2, 2)), InvalidMarble), (("put", "a", None), InvalidMarble),
            (("put", "z", (0, 0)), InvalidPlace), (("put", "z", [2, 2]), InvalidPlace),
            (("put", "z", (True, 2)), InvalidPlace), (("put", "z", (3, 0)), InvalidPlace),
        ):
            live = used()
            self.assert_raises_and_keeps(kind, live, live.apply, operation)
            self.assert_raises_and_keeps(kind, live, live.apply, ("tilt", "u"), operation, ("tilt", "r"))

    def test_the_first_failure_is_raised(self):
        live = used()
        self.assert_raises_and_keeps(UnknownMarble, live, live.apply, ("take", "z"), ("tilt", "x"))
        self.assert_raises_and_keeps(InvalidTilt, live, live.apply, ("tilt", "x"), ("take", "z"))

    def test_an_operation_counts_with_those_before_it(self):
        live = example()
        self.assertEqual(live.apply(("take", "a"), ("put", "a", (0, 0)), ("tilt", "r"))[:2], [(0, 0), 4])
        self.assert_raises_and_keeps(UnknownMarble, live, live.apply, ("take", "a"), ("take", "a"))
        self.assert_raises_and_keeps(InvalidMarble, live, live.apply, ("put", "z", (0, 0)), ("put", "z", (1, 0)))

    def test_arguments_are_not_kept(self):
        tray, operations = Tray(*ROWS), [("tilt", "u")]
        live = LiveTray.replay(tray, operations)
        operations.append(("take", "a"))
        self.assertEqual(live.history, [("tilt", "u")])
        self.assertEqual((tray.rows, operations), (ROWS, [("tilt", "u"), ("take", "a")]))


class ReplayTest(LiveTest):
    def test_history_can_be_replayed(self):
        for live in (example(), used()):
            other = LiveTray.replay(Tray(*ROWS), live.history)
            self.assertIsInstance(other, LiveTray)
            self.assertEqual((other.present_tray, other.history), (live.present_tray, live.history))
            self.assertIs(other.redo(), False)

    def test_undo_takes_back_what_was_replayed(self):
        live = LiveTray.replay(Tray(*ROWS), [("tilt", "u"), ("take", "b")])
        self.assertEqual([live.undo(), live.undo(), live.undo(), live.redo()], [True, True, False, True])
        self.assertEqual(live.history, [("tilt", "u")])

    def test_errors_are_those_of_apply(self):
        tray = Tray(*ROWS)
        for value in NOT_OPERATIONS:
            with self.assertRaises(InvalidOperation) as caught:
                LiveTray.replay(tray, [("tilt", "x"), value, None])
            self.assertEqual(caught.exception.index, 1)
        for operation, kind in ((("tilt", "x"), InvalidTilt), (("take", "e"), UnknownMarble),
                                (("put", "a", (0, 1)), InvalidMarble), (("put", "z", (0, 0)), InvalidPlace)):
            with self.assertRaises(kind):
                LiveTray.replay(tray, [operation])
        self.assertEqual(tray.rows, ROWS)

    def test_what_is_not_a_list_is_no_operation(self):
        for value in (None, True, 0, "", "tilt", (), (("tilt", "u"),), {}):
            with self.assertRaises(InvalidOperation) as caught:
                LiveTray.replay(Tray(*ROWS), value)
            self.assertEqual(caught.exception.index, 0)


class BlockTest(LiveTest):
    def change(self, live):
        live.undo()
        live.tilt("r")
        live.take("a")
        live.put("q", (0, 0))
        live.undo()

    def test_the_end_of_a_block_restores_everything(self):
        for live in (example(), used()):
            before = state(live)
            with live:
                self.change(live)
                self.assertEqual(live.history[-2:], [("tilt", "r"), ("take", "a")])
                self.assertNotIn("a", live)
            self.assertEqual(state(live), before)

    def test_undo_alone_is_restored(self):
        live = used()
        before = state(live)
        with live:
            while live.undo():
                pass
            self.assertEqual(live.present_tray.rows, ROWS)
        self.assertEqual(state(live), before)
        with live:
            live.redo()
        self.assertEqual(state(live), before)

    def test_a_block_that_ends_by_an_error(self):
        for error in (ValueError("told"), UnknownMarble("a"), KeyError(1), KeyboardInterrupt()):
            live = used()
            before = state(live)
            with self.assertRaises(type(error)) as caught:
                with live:
                    self.change(live)
                    raise error
            self.assertIs(caught.exception, error)
            self.assertEqual(state(live), before)
            with live:
                pass

    def test_a_block_that_ends_by_an_operation(self):
        live = used()
        before = state(live)
        with self.assertRaises(UnknownMarble):
            with live:
                self.change(live)
                live.take("a")
        self.assertEqual(state(live), before)

    def test_a_block_gives_the_live_tray(self):
        live = example()
        with live as held:
            self.assertIs(held, live)

    def test_a_block_within_a_block(self):
        live = used()
        before = state(live)
        with live:
            self.change(live)
            within = state(live)
            with self.assertRaises(AlreadyOpen):
                with live:
                    self.fail("the inner block is entered")
            self.assertEqual(state(live), within)
            with self.assertRaises(AlreadyOpen):
                with live:
                    self.fail("the inner block is entered")
        self.assertEqual(state(live), before)
        with live:
            live.tilt("l")
        self.assertEqual(state(live), before)

    def test_already_open_ends_the_outer_block(self):
        live = used()
        before = state(live)
        with self.assertRaises(AlreadyOpen):
            with live:
                self.change(live)
                with live:
                    self.fail("the inner block is entered")
        self.assertEqual(state(live), before)
        with live:
            pass

    def test_blocks_of_other_live_trays(self):
        live, other = used(), used()
        before = state(live)
        with live, other:
            live.tilt("l")
            other.tilt("r")
            with example():
                pass
        self.assertEqual([state(live), state(other)], [before, before])

    def test_blocks_one_after_another(self):
        live = used()
        with live:
            live.tilt("l")
        live.tilt("d")
        before = state(live)
        with live:
            live.undo()
        self.assertEqual(state(live), before)
        self.assertEqual(live.history[-1], ("tilt", "d"))


class TrayAfterTest(LiveTest):
    def test_the_live_tray_stays(self):
        live = used()
        before = state(live)
        after = live.tray_after(("tilt", "d"), ("take", "c"), ("put", "q", (0, 0)))
        expected = [row.replace("c", ".") for row in oracle.tilted(before[0], "d")]
        expected[0] = "q" + expected[0][1:]
        self.assertIsInstance(after, Tray)
        self.assertEqual(after.rows, tuple(expected))
        self.assertEqual(state(live), before)
        self.assertEqual(live.tray_after(("tilt", "d")), live.tray_after(("tilt", "d")))

    def test_without_operations(self):
        live = used()
        before = state(live)
        self.assertEqual(live.tray_after(), live.present_tray)
        self.assertEqual(state(live), before)

    def test_errors_are_those_of_apply(self):
        for value in NOT_OPERATIONS:
            live = used()
            error = self.assert_raises_and_keeps(InvalidOperation, live, live.tray_after, ("tilt", "x"), value)
            self.assertEqual(error.index, 1)
        for operation, kind in ((("tilt", "x"), InvalidTilt), (("take", "e"), UnknownMarble),
                                (("put", "a", (0, 1)), InvalidMarble), (("put", "z", (0, 3)), InvalidPlace)):
            live = used()
            self.assert_raises_and_keeps(kind, live, live.tray_after, ("tilt", "r"), operation)
            self.assertEqual(live.tray_after(), live.present_tray)

    def test_within_a_block(self):
        live = used()
        before = state(live)
        with live:
            live.tilt("r")
            for operations in ((), (("tilt", "u"),), (("tilt", "x"),), (None,)):
                self.assert_raises_and_keeps(AlreadyOpen, live, live.tray_after, *operations)
            self.assertEqual(live.history[-1], ("tilt", "r"))
        self.assertEqual(state(live), before)


class LogTest(unittest.TestCase):
    def log_of(self, rows, text):
        return [(tilt, oracle.places(oracle.after(rows, text[:many + 1]))) for many, tilt in enumerate(text)]

    def test_true_logs(self):
        for rows in oracle.ROWS:
            for text in ("", "l", "lurd", "rdlurdlu", "uuddlr"):
                self.assertIsNone(first_log_error(Tray(*rows), self.log_of(rows, text)))

    def test_the_dict_may_be_in_any_order(self):
        log = [("l", {"d": (2, 0), "b": (0, 1), "a": (0, 0), "c": (1, 0)})]
        self.assertIsNone(first_log_error(Tray(*ROWS), log))

    def test_the_tray_lies_ahead_of_all_tilts(self):
        self.assertEqual(first_log_error(Tray("a.b"), [("r", {"a": (0, 0), "b": (0, 2)})]), 0)
        self.assertIsNone(first_log_error(Tray("a.b"), [("r", {"a": (0, 1), "b": (0, 2)})]))

    def test_trays_without_marbles(self):
        self.assertIsNone(first_log_error(Tray(".."), [("l", {}), ("u", {})]))
        self.assertEqual(first_log_error(Tray(".."), [("l", {}), ("u", {"a": (0, 0)})]), 1)
        self.assertEqual(first_log_error(Tray(".."), [("l", {}), ("x", {})]), 1)

    def test_what_is_not_a_list(self):
        for log in (None, True, False, 0, 1, "", "l", (), (("l", {"a": (0, 0)}),), {}, b""):
            self.assertEqual(first_log_error(Tray("a."), log), 0)
        self.assertIsNone(first_log_error(Tray("a."), []))

    def test_items_that_are_not_such_tuples(self):
        places = {"a": (0, 0)}
        for item in oracle.NOT_STRINGS + (
            "lu", ("l",), ("l", places, 1), ["l", places], (places, "l"), ("l", None), ("l", []), ("l", ()),
            ("l", (("a", (0, 0)),)), ("l", [("a", (0, 0))]), ("l", "a"), ("l", True), ("l", oracle.ENDLESS),
        ):
            self.assertEqual(first_log_error(Tray("a."), [("l", places), item, None]), 1)
        for tilt in oracle.NOT_TILTS:
            self.assertEqual(first_log_error(Tray("a."), [("l", places), (tilt, places)]), 1)

    def test_dicts_that_are_not_true(self):
        good = {"a": (0, 0), "b": (0, 1)}
        for places in (
            {}, {"a": (0, 0)}, {"b": (0, 1)}, {"a": (0, 0), "b": (0, 1), "c": (0, 2)}, {"a": (0, 1), "b": (0, 0)},
            {"a": (0, 0), "c": (0, 1)}, {"a": (0, 0), "b": (0, 2)}, {"a": (0, 0), "b": (1, 1)}, {"A": (0, 0), "b": (0, 1)},
            {"a": (0, 0), "b": (0, 1), "": (0, 2)}, {"a": (0, 0), "b": (0, 1), None: None}, {0: (0, 0), 1: (0, 1)},
        ):
            self.assertEqual(first_log_error(Tray("a.b"), [("l", good), ("l", places)]), 1)

    def test_places_that_are_not_places(self):
        for place in oracle.NOT_PLACES + ((0, True), (False, 1), (0, 1.0), [0, 1], (0, 1, 0), "01", (0, "1")):
            self.assertEqual(first_log_error(Tray("a.b"), [("l", {"a": (0, 0), "b": place})]), 0)
        self.assertEqual(first_log_error(Tray("a."), [("r", {"a": (False, True)})]), 0)

    def test_the_first_wrong_item_is_reported(self):
        rows = ("a.b", ".c.", "d..")
        for wrong in range(6):
            log = self.log_of(rows, "lurdlu")
            log[wrong] = (log[wrong][0], dict(log[wrong][1], d=(1, 2)))
            log[5] = None
            self.assertEqual(first_log_error(Tray(*rows), log), wrong)

    def test_arguments_stay_as_they_are(self):
        tray, places = Tray(*ROWS), {"a": (0, 0)}
        log = [("l", places), None]
        first_log_error(tray, log)
        self.assertEqual((tray.rows, log, places), (ROWS, [("l", {"a": (0, 0)}), None], {"a": (0, 0)}))

    def test_repeated_calls(self):
        log = self.log_of(ROWS, "lurd")
        self.assertEqual([first_log_error(Tray(*ROWS), log) for _ in range(3)], [None] * 3)


class ErrorsTest(unittest.TestCase):
    def test_all_are_errors_of_the_package(self):
        live = example()
        for call in (lambda: live.tilt(None), lambda: live.take(None), lambda: live.put(None, None),
                     lambda: live.put("z", None), lambda: live.apply(None), lambda: live.tray_after(None)):
            with self.assertRaises(TrayError):
                call()


if __name__ == "__main__":
    unittest.main()
