"""Watches and trials (points 23 and 24)."""

import unittest

from calls import Calls
from sealwatch.errors import (
    InvalidLog, InvalidName, InvalidOperation, NoCourse, UnknownBox, UnknownHand, UnknownItem, UnknownMark, UnknownSeal,
)
from sealwatch.houses import House
from sealwatch.logs import Log, final_states
from sealwatch.questions import answer
from sealwatch.watches import Trial, Watch

# Hand 0 has a box with a thing, seal 0 is on it.
HOUSE = House(2, (("hand", 0),), (("box", 0),), (("box", 0),))
GAP = ("gap", (0,))
ALL = ("gap", (0, 1))
BARE = ("bare", 0)
SEALED = ("not", BARE)
BREAK = ("break", 0, 0)
TAKE = ("take", 0, ("thing", 0), 0)
GONE = ("gone", 0)


def watch_of(*rows):
    watch = Watch(HOUSE)
    for row in rows:
        watch.add(row)
    return watch


def seen(watch):
    """All that a watch shows, behind it all that can be undone, and all that can be redone."""
    shows = [(watch.log(), watch.history, watch.marks)]
    ahead = 0
    while watch.redo():
        shows.append((watch.log(), watch.history, watch.marks))
        ahead += 1
    while watch.undo():
        shows.append((watch.log(), watch.history, watch.marks))
    for _ in range(len(shows) - 1 - 2 * ahead):
        watch.redo()
    return shows


class Watches(Calls):

    def is_as(self, watch, rows, history, marks):
        self.assertEqual(watch.log(), Log(HOUSE, rows))
        self.assertEqual(watch.history, history)
        self.assertEqual(watch.marks, marks)

    def fails(self, watch, error, attributes, function, *arguments):
        """An operation raises an error, and changes nothing."""
        shows = seen(watch)
        self.raises(error, attributes, function, *arguments)
        self.assertEqual(seen(watch), shows)


class Adding(Watches):

    def test_no_rows(self):
        watch = Watch(HOUSE)
        self.is_as(watch, [], [], [])
        self.assertEqual([watch.surely(GONE), watch.surely(SEALED)], ["never", "always"])
        self.assertEqual([watch.undo(), watch.redo()], [False, False])
        self.is_as(watch, [], [], [])

    def test_counts_of_states(self):
        watch = Watch(HOUSE)
        self.assertEqual([watch.add(row) for row in (SEALED, GAP, ALL, ("not", GONE), BREAK)], [1, 3, 8, 2, 1])
        self.is_as(watch, [SEALED, GAP, ALL, ("not", GONE), BREAK],
                   [("add", SEALED), ("add", GAP), ("add", ALL), ("add", ("not", GONE)), ("add", BREAK)], [])

    def test_count_is_that_of_final_states(self):
        watch = Watch(HOUSE)
        for row in (ALL, BARE, ("gap", (1,)), ("not", ("at", ("thing", 0), ("hand", 1))), ALL, ("in", 0, ())):
            self.assertEqual(watch.add(row), len(final_states(watch.log())))

    def test_very_many_states(self):
        house = House(4, (("hand", 0),) * 3, (("hand", 0),) * 4, (("hand", 0),) * 3)
        watch = Watch(house)
        self.assertEqual(watch.add(("gap", (0, 1, 2, 3))), 196 * 446 * 7 ** 4)
        self.assertEqual(watch.add(("at", ("thing", 1), ("hand", 2))), 196 * 446 * 7 ** 3)

    def test_row_by_which_no_course_fits(self):
        watch = watch_of(GAP)
        self.fails(watch, NoCourse, {}, watch.add, ("at", ("box", 0), ("hand", 1)))
        self.fails(watch, NoCourse, {}, watch.add, ("take", 1, ("thing", 0), 0))
        self.is_as(watch, [GAP], [("add", GAP)], [])
        self.assertEqual(watch.add(BARE), 2)

    def test_invalid_rows(self):
        for row in (
            ("give", 0, ("thing", 0), 0), ("give", 2, ("thing", 0), 0), ("put", 0, ("seal", 0), 0), ("take", 0, ("box", 0), 0),
            ("break", 0, 1), ("bare", 1), ("gone", 1), ("gap", (1, 0)), ("gap", (2,)), ("in", 0, (("seal", 0),)),
            ("not", ("at", ("thing", 1), ("hand", 0))), ("seal", 0, 0, 1),
        ):
            for rows in ([], [SEALED, GAP]):
                watch = watch_of(*rows)
                self.fails(watch, InvalidLog, {"index": len(rows)}, watch.add, row)

    def test_thirty_rows_and_one_more(self):
        watch = watch_of(*[GAP] * 29)
        self.assertEqual(watch.add(SEALED), 1)
        self.assertEqual(len(watch.log()), 30)
        for row in (SEALED, BARE, ("bare", 1)):
            self.fails(watch, InvalidLog, {"index": 30}, watch.add, row)
        watch.undo()
        self.fails(watch, InvalidLog, {"index": 29}, watch.add, ("bare", 1))
        self.assertEqual(watch.add(BARE), 2)

    def test_a_shorter_log_can_grow_again(self):
        watch = watch_of(*[GAP] * 10)
        watch.mark("ten")
        for _ in range(20):
            watch.add(GAP)
        self.assertEqual(watch.go("ten"), 10)
        self.assertEqual(watch.add(SEALED), 1)
        self.assertEqual(watch.log(), Log(HOUSE, [GAP] * 10 + [SEALED]))

    def test_surely(self):
        watch = watch_of(GAP)
        for sight in (GONE, BARE, SEALED, ("at", ("thing", 0), ("hand", 1)), ("at", ("box", 0), ("hand", 0))):
            self.returns(answer(Log(HOUSE, [GAP]), sight), watch.surely, sight)
        self.assertEqual(watch.history, [("add", GAP)])
        watch.add(BARE)
        self.returns("always", watch.surely, GONE)
        for error, sight in (
            (UnknownItem, ("at", ("thing", 1), ("hand", 7))), (UnknownHand, ("at", ("thing", 0), ("hand", 2))),
            (UnknownBox, ("not", ("bare", 1))), (UnknownSeal, ("gone", 1)), (UnknownItem, ("in", 0, (("seal", 0),))),
        ):
            self.raises(error, {}, watch.surely, sight)


class Marking(Watches):

    def test_names(self):
        watch = watch_of(GAP)
        for name in ("a", "z", "abcdefgh", "zzzzzzzz", "mark"):
            self.assertIs(watch.mark(name), False)
            self.assertEqual(watch.go(name), 1)
        self.assertEqual(watch.marks, ["a", "abcdefgh", "mark", "z", "zzzzzzzz"])

    def test_what_is_no_name(self):
        watch = watch_of(GAP)
        watch.mark("ab")
        for name in ("", "abcdefghi", "A", "aB", "a b", "a1", "1", "_", "a-b", " a", "a\n", "\u00e4", "\u0430", "a" * 100):
            self.fails(watch, InvalidName, {}, watch.mark, name)
            self.fails(watch, UnknownMark, {}, watch.go, name)
        for name in (None, 1, True, ("ab",), ["ab"], b"ab"):
            self.fails(watch, InvalidName, {}, watch.apply_all, [("mark", name)])
            self.fails(watch, UnknownMark, {}, watch.apply_all, [("go", name)])
        self.assertEqual(watch.marks, ["ab"])

    def test_go(self):
        watch = watch_of(GAP)
        self.assertIs(watch.mark("one"), False)
        watch.add(BARE)
        self.assertIs(watch.mark("two"), False)
        self.assertEqual(watch.go("one"), 1)
        self.assertEqual(watch.log(), Log(HOUSE, [GAP]))
        self.assertEqual(watch.marks, ["one", "two"])
        self.assertEqual(watch.go("two"), 2)
        self.assertEqual(watch.go("two"), 2)
        self.is_as(watch, [GAP, BARE], [("add", GAP), ("mark", "one"), ("add", BARE), ("mark", "two"), ("go", "one"),
                                        ("go", "two"), ("go", "two")], ["one", "two"])

    def test_go_to_no_rows(self):
        watch = Watch(HOUSE)
        watch.mark("start")
        watch.add(BREAK)
        self.assertEqual(watch.go("start"), 0)
        self.assertEqual(watch.add(SEALED), 1)
        self.assertEqual(watch.log(), Log(HOUSE, [SEALED]))

    def test_unknown_marks(self):
        watch = watch_of(GAP)
        self.fails(watch, UnknownMark, {}, watch.go, "a")
        watch.mark("b")
        self.fails(watch, UnknownMark, {}, watch.go, "a")
        watch.undo()
        self.fails(watch, UnknownMark, {}, watch.go, "b")
        watch.redo()
        self.assertEqual(watch.go("b"), 1)

    def test_a_mark_that_is_set_again(self):
        watch = Watch(HOUSE)
        self.assertIs(watch.mark("a"), False)
        watch.add(GAP)
        self.assertIs(watch.mark("a"), True)
        watch.add(BARE)
        self.assertIs(watch.mark("a"), True)
        self.assertEqual([watch.marks, watch.go("a")], [["a"], 2])
        self.assertEqual([watch.undo(), watch.undo(), watch.go("a")], [True, True, 1])
        self.assertEqual([watch.undo() for _ in range(3)], [True] * 3)
        self.is_as(watch, [GAP], [("mark", "a"), ("add", GAP)], ["a"])
        self.assertEqual(watch.go("a"), 0)

    def test_a_mark_stays_that_was_set_behind_another_one(self):
        watch = watch_of(GAP)
        watch.mark("a")
        watch.add(BARE)
        watch.mark("b")
        watch.go("a")
        watch.add(SEALED)
        self.assertIs(watch.mark("b"), True)
        self.assertEqual(watch.log(), Log(HOUSE, [GAP, SEALED]))
        watch.go("a")
        self.assertEqual(watch.go("b"), 2)
        self.assertEqual(watch.log(), Log(HOUSE, [GAP, SEALED]))

    def test_new_lists(self):
        watch = watch_of(GAP)
        watch.mark("a")
        watch.marks.append("b")
        watch.history.clear()
        self.is_as(watch, [GAP], [("add", GAP), ("mark", "a")], ["a"])
        self.assertIsNot(watch.marks, watch.marks)
        self.assertIsNot(watch.history, watch.history)


class Undoing(Watches):

    def test_several_in_a_row(self):
        watch = watch_of(SEALED, GAP)
        watch.mark("a")
        watch.add(BARE)
        watch.go("a")
        history = watch.history
        for left in range(4, -1, -1):
            self.assertIs(watch.undo(), True)
            self.assertEqual(watch.history, history[:left])
        self.assertEqual([watch.undo(), watch.undo()], [False, False])
        self.is_as(watch, [], [], [])
        for left in range(1, 6):
            self.assertIs(watch.redo(), True)
            self.assertEqual(watch.history, history[:left])
        self.assertEqual([watch.redo(), watch.redo()], [False, False])
        self.is_as(watch, [SEALED, GAP], history, ["a"])

    def test_nothing_to_redo(self):
        watch = watch_of(GAP)
        self.assertIs(watch.redo(), False)
        self.is_as(watch, [GAP], [("add", GAP)], [])

    def test_undo_to_each_log(self):
        watch = watch_of(GAP, BARE)
        watch.undo()
        self.is_as(watch, [GAP], [("add", GAP)], [])
        self.assertEqual(watch.surely(GONE), "sometimes")
        watch.redo()
        self.is_as(watch, [GAP, BARE], [("add", GAP), ("add", BARE)], [])
        self.assertEqual(watch.surely(GONE), "always")

    def test_redo_behind_another_operation(self):
        for name, argument in (("add", SEALED), ("mark", "a"), ("go", "x")):
            watch = watch_of()
            watch.mark("x")
            watch.add(GAP)
            watch.add(BARE)
            self.assertEqual([watch.undo(), watch.undo()], [True, True])
            getattr(watch, name)(argument)
            history = watch.history
            self.assertIs(watch.redo(), False)
            self.assertEqual(watch.history, history)
            self.assertEqual([watch.undo(), watch.redo(), watch.redo()], [True, True, False])
            self.assertEqual(watch.history, history)

    def test_a_redo_is_no_new_operation(self):
        watch = watch_of(GAP, BARE, BARE)
        self.assertEqual([watch.undo(), watch.undo(), watch.redo(), watch.redo(), watch.redo()], [True] * 4 + [False])
        self.assertEqual([watch.undo(), watch.redo(), watch.undo(), watch.undo(), watch.redo()], [True] * 5)
        self.assertEqual(len(watch.log()), 2)
        self.assertIs(watch.redo(), True)

    def test_an_operation_with_an_error_is_not_executed(self):
        watch = watch_of(GAP, BARE)
        watch.undo()
        for error, attributes, function, argument in (
            (NoCourse, {}, watch.add, ("at", ("box", 0), ("hand", 1))), (InvalidLog, {"index": 1}, watch.add, ("bare", 1)),
            (InvalidName, {}, watch.mark, "A"), (UnknownMark, {}, watch.go, "a"),
            (InvalidOperation, {"index": 0}, watch.apply_all, [("add",)]), (UnknownMark, {}, watch.apply_all, [("go", "a")]),
        ):
            self.fails(watch, error, attributes, function, argument)
            self.assertIs(watch.redo(), True)
            self.is_as(watch, [GAP, BARE], [("add", GAP), ("add", BARE)], [])
            self.assertIs(watch.undo(), True)

    def test_questions_are_no_operations(self):
        watch = watch_of(GAP, BARE)
        watch.undo()
        watch.log()
        watch.surely(GONE)
        self.assertEqual([watch.marks, watch.history], [[], [("add", GAP)]])
        watch.apply_all([])
        self.assertIs(watch.redo(), True)

    def test_a_hundred_operations(self):
        watch = Watch(HOUSE)
        for number in range(25):
            watch.add(GAP)
            watch.mark("abcde"[number % 5])
            watch.add(SEALED)
            watch.go("abcde"[number % 5])
        self.assertEqual([len(watch.history), len(watch.log()), watch.marks], [100, 25, list("abcde")])
        history = watch.history
        self.assertEqual([watch.undo() for _ in range(101)], [True] * 100 + [False])
        self.assertEqual([watch.redo() for _ in range(101)], [True] * 100 + [False])
        self.assertEqual(watch.history, history)
        again = Watch.replay(HOUSE, history)
        self.assertEqual([again.history, again.log(), again.marks], [history, watch.log(), watch.marks])


class Applying(Watches):

    def test_none(self):
        watch = watch_of(GAP)
        self.returns([], watch.apply_all, [])
        self.is_as(watch, [GAP], [("add", GAP)], [])

    def test_results(self):
        watch = Watch(HOUSE)
        operations = [("undo",), ("add", GAP), ("mark", "a"), ("add", BARE), ("go", "a"), ("undo",), ("undo",), ("redo",),
                      ("redo",), ("redo",), ("mark", "a")]
        handed = list(operations)
        self.assertEqual(watch.apply_all(handed), [False, 3, False, 2, 1, True, True, True, True, False, True])
        self.assertEqual(handed, operations)
        self.is_as(watch, [GAP], [("add", GAP), ("mark", "a"), ("add", BARE), ("go", "a"), ("mark", "a")], ["a"])
        self.assertEqual([watch.undo(), watch.undo(), watch.log()], [True, True, Log(HOUSE, [GAP, BARE])])

    def test_undo_of_what_was_ahead(self):
        watch = watch_of(GAP, BARE)
        self.assertEqual(watch.apply_all([("undo",), ("undo",), ("undo",), ("redo",)]), [True, True, False, True])
        self.is_as(watch, [GAP], [("add", GAP)], [])
        self.assertIs(watch.redo(), True)

    def test_invalid_operations(self):
        wrong = (
            (), ("add",), ("add", GAP, GAP), ("mark",), ("mark", "a", "b"), ("go",), ("go", "a", "a"), ("undo", 1),
            ("undo", None), ("redo", "a"), ["add", GAP], ["undo"], "undo", "add", None, 0, True, ("log",), ("surely", GONE),
            ("apply_all", []), ("tried", []), ("tried", [], True), ("replay", HOUSE, []), ("marks",), ("history",),
            ("Add", GAP), ("",), ("", GAP), (1, GAP), (None,), (("undo",),), ("keep",), ("execute", GAP), ("undo ",),
        )
        for operation in wrong:
            watch = watch_of(GAP, BARE)
            watch.mark("a")
            watch.undo()
            self.fails(watch, InvalidOperation, {"index": 0}, watch.apply_all, [operation])
            self.fails(watch, InvalidOperation, {"index": 2}, watch.apply_all, [("undo",), ("mark", "b"), operation, ()])
            self.fails(watch, InvalidOperation, {"index": 1}, watch.apply_all, [("go", "none"), operation])
            self.fails(watch, InvalidOperation, {"index": 1}, watch.tried, [("go", "none"), operation], True)
            self.fails(watch, InvalidOperation, {"index": 1}, watch.tried, [("undo",), operation], False)
            self.raises(InvalidOperation, {"index": 1}, Watch.replay, HOUSE, [("mark", "A"), operation])

    def test_an_error_in_the_middle(self):
        ahead = [("undo",), ("mark", "b"), ("add", SEALED), ("go", "a"), ("redo",), ("undo",)]
        for error, attributes, operation in (
            (NoCourse, {}, ("add", ("at", ("box", 0), ("hand", 1)))), (InvalidLog, {"index": 2}, ("add", ("bare", 1))),
            (InvalidName, {}, ("mark", "")), (UnknownMark, {}, ("go", "c")), (UnknownMark, {}, ("go", "")),
        ):
            watch = watch_of(GAP)
            watch.mark("a")
            watch.add(BARE)
            watch.add(BARE)
            watch.undo()
            self.fails(watch, error, attributes, watch.apply_all, ahead + [operation, ("mark", "c")])
            self.fails(watch, error, attributes, watch.tried, ahead + [operation, ("mark", "c")], True)
            self.fails(watch, error, attributes, watch.tried, ahead + [operation, ("mark", "c")], False)
            self.is_as(watch, [GAP, BARE], [("add", GAP), ("mark", "a"), ("add", BARE)], ["a"])
            self.assertIs(watch.redo(), True)

    def test_the_first_error_counts(self):
        watch = Watch(HOUSE)
        self.fails(watch, UnknownMark, {}, watch.apply_all, [("go", "a"), ("mark", "A")])
        self.fails(watch, InvalidName, {}, watch.apply_all, [("mark", "A"), ("go", "a")])

    def test_replay(self):
        operations = [("add", GAP), ("mark", "a"), ("add", BARE), ("undo",)]
        watch = Watch.replay(HOUSE, operations)
        self.assertIsInstance(watch, Watch)
        self.is_as(watch, [GAP], operations[:2], ["a"])
        self.assertEqual([watch.redo(), watch.surely(GONE)], [True, "always"])
        self.assertEqual(operations, [("add", GAP), ("mark", "a"), ("add", BARE), ("undo",)])
        self.is_as(Watch.replay(HOUSE, []), [], [], [])
        self.assertIsNot(Watch.replay(HOUSE, []), Watch.replay(HOUSE, []))

    def test_replay_with_errors(self):
        for error, attributes, operations in (
            (NoCourse, {}, [("add", BARE)]), (InvalidLog, {"index": 1}, [("add", GAP), ("add", ("bare", 1))]),
            (InvalidName, {}, [("mark", "A")]), (UnknownMark, {}, [("mark", "a"), ("undo",), ("go", "a")]),
            (InvalidOperation, {"index": 1}, [("add", BARE), ("go",)]),
        ):
            self.raises(error, attributes, Watch.replay, HOUSE, operations)


class Trials(Watches):

    def start(self):
        """A watch with something to undo and something to redo."""
        watch = watch_of(GAP, BARE)
        watch.mark("a")
        watch.add(TAKE)
        watch.undo()
        return watch

    def change(self, watch):
        watch.undo()
        watch.undo()
        watch.add(SEALED)
        watch.mark("b")

    def changed(self):
        watch = self.start()
        self.change(watch)
        return watch

    def test_without_keep(self):
        watch = self.start()
        with Trial(watch) as trial:
            self.assertIsInstance(trial, Trial)
            self.change(watch)
            self.assertEqual(seen(watch), seen(self.changed()))
        self.assertEqual(seen(watch), seen(self.start()))

    def test_with_keep(self):
        for number in range(3):
            watch = self.start()
            with Trial(watch) as trial:
                if number == 0:
                    self.assertIsNone(trial.keep())
                self.change(watch)
                if number > 0:
                    trial.keep()
                if number == 2:
                    trial.keep()
            self.assertEqual(seen(watch), seen(self.changed()))

    def test_an_error_goes_on(self):
        for keep in (False, True):
            watch = self.start()
            with self.assertRaises(ZeroDivisionError):
                with Trial(watch) as trial:
                    self.change(watch)
                    if keep:
                        trial.keep()
                    raise ZeroDivisionError
            self.assertEqual(seen(watch), seen(self.changed() if keep else self.start()))
            with self.assertRaises(UnknownMark):
                with Trial(watch):
                    watch.go("none")

    def test_an_empty_block(self):
        watch = self.start()
        with Trial(watch):
            pass
        self.assertEqual(seen(watch), seen(self.start()))

    def test_the_beginning_of_the_block_counts(self):
        watch = self.start()
        trial = Trial(watch)
        self.change(watch)
        with trial:
            watch.undo()
        self.assertEqual(seen(watch), seen(self.changed()))

    def test_keep_counts_for_its_block_alone(self):
        watch = self.start()
        trial = Trial(watch)
        trial.keep()
        with trial:
            self.change(watch)
        self.assertEqual(seen(watch), seen(self.start()))
        with trial:
            trial.keep()
            self.change(watch)
        self.assertEqual(seen(watch), seen(self.changed()))
        with trial:
            watch.undo()
            watch.mark("c")
        self.assertEqual(seen(watch), seen(self.changed()))

    def test_one_within_another(self):
        for keeps_outer in (False, True):
            for keeps_inner in (False, True):
                watch = self.start()
                with Trial(watch) as outer:
                    watch.mark("out")
                    with Trial(watch) as inner:
                        if keeps_outer:
                            outer.keep()
                        watch.mark("in")
                        if keeps_inner:
                            inner.keep()
                    self.assertEqual(watch.marks, ["a", "in", "out"] if keeps_inner else ["a", "out"])
                    watch.mark("last")
                marks = ["a", "in", "last", "out"] if keeps_inner else ["a", "last", "out"]
                self.assertEqual(watch.marks, marks if keeps_outer else ["a"])
                self.assertIs(watch.redo(), not keeps_outer)

    def test_one_trial_twice_within_itself(self):
        for keeps_outer in (False, True):
            for keeps_inner in (False, True):
                watch = self.start()
                trial = Trial(watch)
                with trial:
                    watch.mark("out")
                    if keeps_outer:
                        trial.keep()
                    with trial:
                        watch.mark("in")
                        if keeps_inner:
                            trial.keep()
                    self.assertEqual(watch.marks, ["a", "in", "out"] if keeps_inner else ["a", "out"])
                kept = ["a", "in", "out"] if keeps_inner else ["a", "out"]
                self.assertEqual(watch.marks, kept if keeps_outer or keeps_inner else ["a"])

    def test_two_watches(self):
        watch = self.start()
        other = self.start()
        with Trial(watch), Trial(other) as trial:
            self.change(watch)
            self.change(other)
            trial.keep()
        self.assertEqual(seen(watch), seen(self.start()))
        self.assertEqual(seen(other), seen(self.changed()))

    def test_errors_of_operations_within(self):
        watch = self.start()
        with Trial(watch) as trial:
            self.change(watch)
            self.fails(watch, UnknownMark, {}, watch.apply_all, [("undo",), ("go", "b")])
            trial.keep()
        self.assertEqual(seen(watch), seen(self.changed()))

    def test_tried(self):
        operations = [("undo",), ("undo",), ("add", SEALED), ("mark", "b"), ("mark", "b")]
        watch = self.start()
        self.returns([True, True, 1, False, True], watch.tried, operations, False)
        self.assertEqual(seen(watch), seen(self.start()))
        self.assertEqual(watch.tried(operations, True), [True, True, 1, False, True])
        other = self.changed()
        other.mark("b")
        self.assertEqual(seen(watch), seen(other))
        self.assertEqual([watch.tried([], True), watch.tried([], False)], [[], []])
        self.assertEqual(seen(watch), seen(other))

    def test_tried_within_a_trial(self):
        watch = self.start()
        with Trial(watch):
            self.assertEqual(watch.tried([("mark", "b")], True), [False])
            self.assertEqual(watch.tried([("mark", "c")], False), [False])
            self.assertEqual(watch.marks, ["a", "b"])
        self.assertEqual(seen(watch), seen(self.start()))


if __name__ == "__main__":
    unittest.main()
