"""In which part of all courses something is so (point 26)."""

import unittest

from calls import Calls
from sealwatch.courses import course_count, courses
from sealwatch.errors import InvalidNumber, NoCourse, UnknownBox, UnknownHand, UnknownItem, UnknownSeal
from sealwatch.houses import House
from sealwatch.logs import Log
from sealwatch.shares import share, touch_shares

# Hand 0 has a box with a thing in it.
HOUSE = House(2, (("hand", 0),), (("box", 0),), ())
SEALED = House(2, (("hand", 0),), (("box", 0),), (("box", 0),))
THING = ("thing", 0)
ALL = ("gap", (0, 1))


def log_of(*rows):
    return Log(HOUSE, rows)


class Share(Calls):

    def check(self, log, number, sight, worth):
        self.returns(worth, share, log, number, sight)

    def test_no_secret_deeds(self):
        for log in (log_of(), log_of(ALL), log_of(ALL, ALL, ("at", THING, ("box", 0)))):
            self.check(log, 0, ("at", THING, ("box", 0)), (1, 1))
            self.check(log, 0, ("at", THING, ("hand", 0)), (0, 1))

    def test_one_secret_deed(self):
        """The hand takes the thing, or gives the box."""
        self.check(log_of(ALL), 1, ("at", THING, ("box", 0)), (1, 2))
        self.check(log_of(ALL), 1, ("at", ("box", 0), ("hand", 1)), (1, 2))
        self.check(log_of(("gap", (0,))), 1, ("in", 0, ()), (1, 1))
        self.check(log_of(("gap", (0,))), 1, ("not", ("in", 0, ())), (0, 1))

    def test_two_gaps_are_two(self):
        """The deed of hand 0 alone is in one gap or the other; hand 1 can only be given something in one of them."""
        log = log_of(("gap", (0,)), ALL)
        self.check(log, 1, ("at", THING, ("hand", 0)), (2, 3))
        self.check(log, 1, ("at", ("box", 0), ("hand", 1)), (1, 3))

    def test_lowest_terms(self):
        log = log_of(ALL)
        for number in range(9):
            for sight in (("at", THING, ("box", 0)), ("at", ("box", 0), ("hand", 1)), ("in", 0, ()), ("bare", 0)):
                part = course_count(log + [sight], number)
                whole = course_count(log, number)
                self.check(log, number, sight, lowest(part, whole))

    def test_sight_and_its_contrary(self):
        log = Log(SEALED, [ALL, ("not", ("gone", 0)), ALL])
        for number in range(9):
            upper, lower = share(log, number, ("gone", 0))
            self.check(log, number, ("not", ("gone", 0)), (lower - upper, lower))

    def test_eight_secret_deeds(self):
        log = Log(SEALED, [("gap", (0,))])
        self.check(log, 8, ("at", THING, ("hand", 0)), (1, 1))
        self.check(log, 8, ("at", THING, ("box", 0)), (0, 1))
        self.check(log, 7, ("at", THING, ("hand", 0)), (0, 1))

    def test_thirty_rows(self):
        """The sight is no row of the log, so it is not one too many."""
        log = log_of(ALL, *[("at", ("box", 0), ("hand", 0))] * 29)
        self.check(log, 2, ("at", THING, ("box", 0)), (2, 3))
        self.assertEqual(sorted(courses(log, 2)), [
            [[("give", 0, ("box", 0), 1), ("give", 1, ("box", 0), 0)]],
            [[("take", 0, THING, 0), ("give", 0, THING, 1)]], [[("take", 0, THING, 0), ("put", 0, THING, 0)]],
        ])

    def test_no_courses(self):
        self.raises(NoCourse, {}, share, Log(SEALED, [("gap", (1,))]), 1, ("bare", 0))
        self.raises(NoCourse, {}, share, log_of(), 1, ("bare", 0))
        self.raises(NoCourse, {}, share, log_of(("in", 0, ())), 0, ("bare", 0))
        self.raises(NoCourse, {}, share, log_of(ALL, ("in", 0, ())), 0, ("bare", 0))
        self.raises(NoCourse, {}, share, Log(SEALED, [("gap", (0,)), ("not", ("gone", 0))]), 8, ("bare", 0))

    def test_errors(self):
        for number in (-1, 9, 20, True, False, 10 ** 20):
            for log in (log_of(ALL), log_of(("in", 0, ()))):
                for sight in (("bare", 0), ("bare", 9)):
                    self.raises(InvalidNumber, {}, share, log, number, sight)
        for error, sight in (
            (UnknownItem, ("at", ("thing", 1), ("hand", 7))), (UnknownHand, ("not", ("at", THING, ("hand", 2)))),
            (UnknownBox, ("bare", 1)), (UnknownSeal, ("gone", 0)), (UnknownItem, ("in", 0, (THING, ("box", 0)))),
        ):
            for log in (log_of(ALL), log_of(("in", 0, ()))):
                for number in (0, 8):
                    self.raises(error, {}, share, log, number, sight)


class TouchShares(Calls):

    def check(self, log, number, item, worth):
        self.returns(worth, touch_shares, log, number, item)

    def test_no_secret_deeds(self):
        self.check(log_of(), 0, THING, [(0, 1), (0, 1)])
        self.check(log_of(ALL), 0, ("box", 0), [(1, 1), (0, 1)])

    def test_told_deeds(self):
        take = ("take", 0, THING, 0)
        self.check(log_of(take), 0, THING, [(1, 1), (0, 1)])
        self.check(log_of(take, ("give", 0, THING, 1), ("give", 1, THING, 0)), 0, THING, [(1, 1), (1, 1)])
        self.check(log_of(take, ("give", 0, THING, 1)), 0, ("box", 0), [(1, 1), (0, 1)])

    def test_secret_deeds(self):
        self.check(log_of(ALL), 1, THING, [(1, 2), (0, 1)])
        self.check(log_of(ALL), 1, ("box", 0), [(1, 1), (1, 2)])
        # Give and give back, give and take, take and give either, take and put.
        self.check(log_of(ALL), 2, THING, [(3, 5), (2, 5)])
        self.check(log_of(ALL), 2, ("box", 0), [(1, 1), (3, 5)])

    def test_what_is_in_a_box_is_not_touched(self):
        house = House(2, (("hand", 0), ("box", 0)), (("box", 1),), ())
        log = Log(house, [("give", 0, ("box", 0), 1), ALL])
        self.check(log, 0, ("box", 1), [(0, 1), (0, 1)])
        self.check(log, 2, THING, [(0, 1), (1, 7)])

    def test_seals(self):
        log = Log(SEALED, [("gap", (0,))])
        self.check(log, 3, ("seal", 0), [(0, 1), (0, 1)])
        log = Log(House(2, (("hand", 0),), (), (("hand", 0),)), [ALL])
        self.check(log, 1, ("seal", 0), [(1, 1), (1, 3)])

    def test_eight_secret_deeds(self):
        log = log_of(ALL)
        many = course_count(log, 8)
        for hand, worth in enumerate(touch_shares(log, 8, THING)):
            touched = [one for one in courses(log, 8) if holds(one[0], hand)]
            self.assertEqual(worth, lowest(len(touched), many))

    def test_thirty_rows(self):
        log = log_of(ALL, *[("bare", 0)] * 29)
        self.check(log, 1, THING, [(1, 2), (0, 1)])

    def test_no_courses(self):
        self.raises(NoCourse, {}, touch_shares, log_of(), 1, THING)
        self.raises(NoCourse, {}, touch_shares, log_of(("in", 0, ())), 0, THING)
        self.raises(NoCourse, {}, touch_shares, log_of(("gap", (1,))), 8, THING)

    def test_errors(self):
        for log in (log_of(ALL), log_of(("in", 0, ()))):
            for number in (-1, 9, True, False):
                for item in (THING, ("thing", 1)):
                    self.raises(InvalidNumber, {}, touch_shares, log, number, item)
            for number in (0, 8):
                for item in (("thing", 1), ("seal", 0), ("box", 1), ("box", -1), ("thing", False)):
                    self.raises(UnknownItem, {}, touch_shares, log, number, item)


def holds(deeds, hand):
    """Whether a hand comes to hold the thing by some deed."""
    return ("take", hand, THING, 0) in deeds or ("give", 1 - hand, THING, hand) in deeds


def lowest(part, whole):
    common = max(number for number in range(1, whole + 1) if part % number == 0 and whole % number == 0)
    return (part // common, whole // common)


if __name__ == "__main__":
    unittest.main()
