"""Watches, suspects and shares (points 23 to 26), compared with plain ones for small houses."""

import math
import unittest

import plainer
from plain import some_checks, some_rows, some_sight
from sealwatch.errors import NoCourse, WatchError
from sealwatch.logs import Log
from sealwatch.shares import share, touch_shares
from sealwatch.suspects import Suspects
from sealwatch.watches import Trial, Watch
from trials import Trials


class Naive:
    """A watch that does all operations in effect once more for each question."""

    def __init__(self, plain):
        self.plain = plain
        self.done = []
        self.undone = []

    def now(self):
        rows, marks = [], {}
        for word, argument in self.done:
            if word == "add":
                rows = rows + [argument]
            elif word == "mark":
                marks[argument] = rows
            else:
                rows = marks[argument]
        return rows, marks

    def apply(self, operation):
        """The result of an operation, or the error that it raises."""
        if operation == ("undo",):
            if self.done:
                self.undone.append(self.done.pop())
                return True
            return False
        if operation == ("redo",):
            if self.undone:
                self.done.append(self.undone.pop())
                return True
            return False
        rows, marks = self.now()
        word, argument = operation
        if word == "add":
            result = len(self.plain.states(rows + [argument])[-1])
            if result == 0:
                return NoCourse
        elif word == "mark":
            result = argument in marks
        else:
            if argument not in marks:
                return "UnknownMark"
            result = len(marks[argument])
        self.done.append(operation)
        self.undone = []
        return result


def some_operation(chance, plain, rows):
    kind = chance.randrange(10)
    if kind < 3 and rows:
        return ("add", chance.choice(rows))
    if kind == 3:
        return ("add", some_sight(chance, plain.house))
    if kind < 6:
        return ("mark", chance.choice("abc"))
    if kind == 6:
        return ("go", chance.choice("abc"))
    return ("undo",) if kind < 9 else ("redo",)


def lowest(part, whole):
    common = math.gcd(part, whole)
    return (part // common, whole // common)


class Compared(Trials):

    def test_watches(self):
        self.each(range(5000, 5200), 8, self.check_watch)

    def check_watch(self, chance, plain, rows, _):
        watch = Watch(plain.house)
        naive = Naive(plain)
        for _ in range(30):
            operation = some_operation(chance, plain, rows)
            expected = naive.apply(operation)
            try:
                self.assertEqual(watch.apply_all([operation]), [expected])
                self.assertIs(type(expected), bool if operation[0] in ("mark", "undo", "redo") else int)
            except WatchError as error:
                self.assertIn(expected, (type(error), type(error).__name__))
            self.check_shown(watch, naive)
        self.check_trials(chance, plain, rows, watch, naive)

    def check_shown(self, watch, naive):
        rows, marks = naive.now()
        self.assertEqual(watch.log(), Log(naive.plain.house, rows))
        self.assertEqual((watch.history, watch.marks), (naive.done, sorted(marks)))

    def check_trials(self, chance, plain, rows, watch, naive):
        """What is tried stays only as a whole, and if it is kept."""
        for _ in range(6):
            operations = [some_operation(chance, plain, rows) for _ in range(chance.randint(0, 5))]
            keeps = chance.random() < 0.5
            saved = (list(naive.done), list(naive.undone))
            results = [naive.apply(operation) for operation in operations]
            fails = NoCourse in results or "UnknownMark" in results
            if fails or not keeps:
                naive.done, naive.undone = saved
            if fails:
                self.assertRaises(WatchError, watch.tried, operations, keeps)
                with Trial(watch) as trial:
                    self.assertRaises(WatchError, watch.apply_all, operations)
                    trial.keep()
            else:
                self.assertEqual(watch.tried(operations, keeps), results)
            self.check_shown(watch, naive)
            self.assertEqual(watch.redo(), naive.apply(("redo",)))
            self.check_shown(watch, naive)

    def test_suspects(self):
        self.each(range(5200, 5500), 8, self.check_suspects)

    def check_suspects(self, chance, plain, rows, log):
        alone = self.ends(plain, rows)
        if not alone:
            self.assertRaises(NoCourse, Suspects, log)
            return
        suspects = Suspects(log)
        self.check_candidates(chance, plain, suspects, alone)
        for row in some_rows(chance, plain, 6):
            left = self.ends(plain, rows + [row])
            if left:
                rows = rows + [row]
                alone = left
                self.assertEqual(suspects.see(row), len(left))
            else:
                self.assertRaises(NoCourse, suspects.see, row)
            self.check_candidates(chance, plain, suspects, alone)
            self.assertEqual(suspects.log(), Log(plain.house, rows))

    def ends(self, plain, rows):
        """The states at the end by the hand who can have done it alone."""
        ends = {hand: plain.states(plainer.watched(rows, (hand,)))[-1] for hand in range(plain.house.hands)}
        return {hand: states for hand, states in ends.items() if states}

    def check_candidates(self, chance, plain, suspects, alone):
        self.assertEqual(suspects.candidates, tuple(sorted(alone)))
        sight = some_sight(chance, plain.house)
        for hand in range(plain.house.hands):
            can_be = any(plainer.is_so(plain, state, sight) for state in alone.get(hand, ()))
            self.assertIs(suspects.can_be(hand, sight), can_be)
        checks = some_checks(chance, plain.house, 5)
        worst = []
        for check in checks:
            found = [{plainer.find(plain, state, check) for state in states} for states in alone.values()]
            worst.append(max(sum(one in part for part in found) for one in set().union(*found)))
        self.assertEqual(suspects.telling(checks), worst.index(min(worst)) if worst else None)

    def test_shares(self):
        self.each(range(5500, 6300), 6, self.check_shares)

    def check_shares(self, chance, plain, rows, log):
        number = chance.randint(0, 3)
        sight = some_sight(chance, plain.house)
        item = chance.choice(plain.house.all_items)
        told = [self.told(plain, rows, course, item) for course in plain.courses(rows, number)]
        if not told:
            self.assertRaises(NoCourse, share, log, number, sight)
            self.assertRaises(NoCourse, touch_shares, log, number, item)
            return
        true = [state for state, _ in told if plainer.is_so(plain, state, sight)]
        self.assertEqual(share(log, number, sight), lowest(len(true), len(told)))
        parts = [lowest(len([1 for _, held in told if ("hand", hand) in held]), len(told)) for hand in range(plain.house.hands)]
        self.assertEqual(touch_shares(log, number, item), parts)

    def told(self, plain, rows, course, item):
        """The state behind a course, and all places where an item was."""
        state = plain.house.state
        places = {plain.world.where(item)}
        secret = list(course)
        for row in rows:
            for deed in secret.pop(0) if row[0] == "gap" else [row]:
                state = plain.behind(state, deed)
                places.add(plain.world.changed(state).where(item))
        return state, places


if __name__ == "__main__":
    unittest.main()
