"""Logs put together (point 21)."""

import unittest

from calls import Calls
from sealwatch.errors import InvalidJoin, InvalidLogs, UnknownRow
from sealwatch.houses import House
from sealwatch.joins import first_join, join_count, joined, surely_before
from sealwatch.logs import Log

# Hand 0 has a box with a thing, seal 0 is on it.
HOUSE = House(2, (("hand", 0),), (("box", 0),), (("box", 0),))
OTHER = House(3, (("hand", 0),), (("box", 0),), (("box", 0),))
SAME = House(2, (("hand", 0),), (("box", 0),), (("box", 0),))
THING = ("thing", 0)
BARE = ("bare", 0)
SEALED = ("not", BARE)
BREAK = ("break", 0, 0)
TAKE = ("take", 0, THING, 0)
STAYS = ("at", ("box", 0), ("hand", 0))


def logs_of(*rows):
    return tuple(Log(HOUSE, part) for part in rows)


class Joined(Calls):

    def check(self, logs, join, rows):
        self.returns(Log(HOUSE, rows), joined, logs, join)

    def test_two_logs(self):
        logs = logs_of([BARE, TAKE], [BREAK])
        self.check(logs, (0, 0, 1), [BARE, TAKE, BREAK])
        self.check(logs, (0, 1, 0), [BARE, BREAK, TAKE])
        self.check(logs, (1, 0, 0), [BREAK, BARE, TAKE])

    def test_three_logs(self):
        logs = logs_of([BARE, TAKE], [BREAK, ("gap", (1,))], [SEALED])
        self.check(logs, (2, 1, 0, 1, 0), [SEALED, BREAK, BARE, ("gap", (1,)), TAKE])

    def test_empty_logs(self):
        self.check(logs_of([], []), (), [])
        self.check(logs_of([], [BREAK], []), (1,), [BREAK])

    def test_whether_it_fits_or_not(self):
        self.check(logs_of([BARE], [SEALED]), (0, 1), [BARE, SEALED])

    def test_invalid_join(self):
        logs = logs_of([BARE, TAKE], [BREAK])
        for join, index in (
            ((), 0), ((0,), 1), ((0, 0), 2), ((1, 0), 2), ((0, 0, 0), 2), ((1, 1, 0), 1), ((0, 1, 0, 0), 3), ((2, 0, 0), 0),
            ((0, -1, 0), 1), ((0, 0, 1, 1), 3), ((0, 2), 1), ((True, 0, 0), 0), ((0, 1, 2), 2), ((0, 0, 1, 5), 3),
        ):
            self.raises(InvalidJoin, {"index": index}, joined, logs, join)
        self.raises(InvalidJoin, {"index": 0}, joined, logs_of([], []), (0,))


class Fitting(Calls):
    """Joins by which some course fits."""

    def check(self, logs, count, first):
        self.returns(count, join_count, logs)
        self.returns(first, first_join, logs)

    def test_one_order(self):
        self.check(logs_of([BARE, TAKE], [BREAK]), 1, (1, 0, 0))
        self.check(logs_of([TAKE], [BREAK]), 1, (1, 0))
        self.check(logs_of([BREAK], [TAKE]), 1, (0, 1))
        self.check(logs_of([TAKE], [("in", 0, ())], [BREAK]), 1, (2, 0, 1))

    def test_several_orders(self):
        self.check(logs_of([STAYS], [BREAK]), 2, (0, 1))
        self.check(logs_of([SEALED, STAYS], [BREAK, TAKE]), 3, (0, 0, 1, 1))
        self.check(logs_of([STAYS], [STAYS], [STAYS]), 6, (0, 1, 2))

    def test_none(self):
        self.check(logs_of([BARE], [SEALED]), 0, None)
        self.check(logs_of([BREAK], [BREAK], [BARE]), 0, None)
        self.check(logs_of([TAKE], []), 0, None)

    def test_empty_logs(self):
        self.check(logs_of([], []), 1, ())
        self.check(logs_of([], [], []), 1, ())
        self.check(logs_of([STAYS], []), 1, (0,))
        self.check(logs_of([], [SEALED, BREAK], []), 1, (1, 1))

    def test_gaps(self):
        self.check(logs_of([BARE], [("gap", (0,))]), 1, (1, 0))
        self.check(logs_of([BARE, BARE], [SEALED, ("gap", (0,))]), 1, (1, 1, 0, 0))
        self.check(logs_of([BARE, SEALED], [("gap", (0, 1))]), 0, None)

    def test_ten_rows(self):
        self.check(logs_of([STAYS] * 5, [STAYS] * 5), 252, (0,) * 5 + (1,) * 5)
        self.check(logs_of([STAYS] * 10, []), 1, (0,) * 10)
        self.check(logs_of([STAYS] * 4, [STAYS] * 3, [BREAK, STAYS, STAYS]), 4200, (0,) * 4 + (1,) * 3 + (2,) * 3)

    def test_first_one_is_the_least(self):
        """What has to come first comes first, all else in the order of the logs."""
        self.check(logs_of([BARE, STAYS], [STAYS, TAKE], [BREAK]), 9, (1, 2, 0, 0, 1))
        self.check(logs_of([BARE, STAYS], [SEALED, STAYS], [BREAK]), 4, (1, 1, 2, 0, 0))


class Before(Calls):

    def check(self, logs, one, other, worth):
        self.returns(worth, surely_before, logs, one, other)

    def test_rows_of_unlike_logs(self):
        logs = logs_of([SEALED, STAYS], [BREAK, TAKE])
        self.check(logs, (0, 0), (1, 0), True)
        self.check(logs, (0, 0), (1, 1), True)
        self.check(logs, (1, 0), (0, 0), False)
        self.check(logs, (0, 1), (1, 0), False)
        self.check(logs, (1, 0), (0, 1), False)

    def test_rows_of_one_log(self):
        logs = logs_of([STAYS, STAYS], [], [STAYS])
        self.check(logs, (0, 0), (0, 1), True)
        self.check(logs, (0, 1), (0, 0), False)
        self.check(logs, (2, 0), (0, 1), False)

    def test_three_logs(self):
        logs = logs_of([("in", 0, ())], [TAKE], [BREAK])
        self.check(logs, (2, 0), (0, 0), True)
        self.check(logs, (1, 0), (0, 0), True)
        self.check(logs, (0, 0), (2, 0), False)

    def test_no_joins(self):
        logs = logs_of([BARE, STAYS], [SEALED])
        self.check(logs, (0, 0), (1, 0), None)
        self.check(logs, (0, 0), (0, 1), None)
        self.check(logs, (0, 1), (0, 0), None)

    def test_unknown_rows(self):
        logs = logs_of([BARE, STAYS], [SEALED])
        right = (0, 0)
        for wrong in ((2, 0), (-1, 0), (0, 2), (1, 1), (0, -1), (True, 0), (0, False), (0, 10)):
            self.raises(UnknownRow, {}, surely_before, logs, wrong, right)
            self.raises(UnknownRow, {}, surely_before, logs, right, wrong)
            self.raises(UnknownRow, {}, surely_before, logs, wrong, wrong)
        for row in ((0, 0), (0, 1), (1, 0)):
            self.raises(UnknownRow, {}, surely_before, logs, row, row)
        self.raises(UnknownRow, {}, surely_before, logs_of([], []), (0, 0), (1, 0))


class Logs(Calls):

    def check(self, index, logs):
        for function, more in ((joined, ((0,),)), (joined, ((9,),)), (join_count, ()), (first_join, ()),
                               (surely_before, ((0, 0), (0, 0))), (surely_before, ((9, 0), (0, 0)))):
            self.raises(InvalidLogs, {"index": index}, function, logs, *more)

    def test_too_few(self):
        self.check(0, ())
        self.check(1, logs_of([STAYS]))
        self.check(1, logs_of([]))

    def test_a_fourth_one(self):
        self.check(3, logs_of([], [], [], []))
        self.check(3, logs_of([STAYS], [STAYS], [STAYS], [STAYS], [STAYS] * 9))

    def test_another_house(self):
        self.check(1, (Log(HOUSE, []), Log(OTHER, []), Log(HOUSE, [])))
        self.check(2, (Log(HOUSE, [STAYS]), Log(HOUSE, []), Log(OTHER, [])))
        self.check(1, (Log(OTHER, []), Log(HOUSE, []), Log(OTHER, []), Log(OTHER, [])))
        self.returns(2, join_count, (Log(HOUSE, [STAYS]), Log(SAME, [STAYS])))

    def test_more_than_ten_rows(self):
        self.check(0, logs_of([STAYS] * 11))
        self.check(0, logs_of([STAYS] * 11, [], []))
        self.check(1, logs_of([STAYS] * 10, [STAYS], []))
        self.check(2, logs_of([STAYS] * 5, [STAYS] * 5, [STAYS]))
        self.check(1, (Log(HOUSE, [STAYS] * 6), Log(HOUSE, [STAYS] * 5), Log(OTHER, [])))
        self.check(1, (Log(HOUSE, [STAYS] * 6), Log(OTHER, [STAYS] * 5)))


if __name__ == "__main__":
    unittest.main()
