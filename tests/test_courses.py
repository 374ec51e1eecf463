"""Courses (points 9, 14 and 15)."""

import itertools
import unittest

from sealwatch.courses import course_count, courses, fewest_course, first_fault
from sealwatch.errors import InvalidCourse, InvalidNumber, NoCourse
from sealwatch.houses import House
from sealwatch.logs import Log

HOUSE = House(3, (("hand", 0),), (("box", 0), ("hand", 2)), (("hand", 0), ("hand", 0)))
THING = ("thing", 0)
TAKE = ("take", 0, THING, 0)
PUT = ("put", 0, THING, 0)


def moved(hand, other):
    return ("give", hand, THING, other)


class Fewest(unittest.TestCase):

    def check(self, rows, number, course, house=HOUSE):
        log = Log(house, rows)
        self.assertEqual(fewest_course(log), (number, course))
        self.assertIsNone(first_fault(log, course))
        self.assertEqual(next(courses(log, number)), course)
        for fewer in range(number):
            self.assertEqual(course_count(log, fewer), 0)

    def test_no_rows_and_no_gaps(self):
        self.check([], 0, [])
        self.check([TAKE, ("at", THING, ("hand", 0))], 0, [])

    def test_nothing_needed(self):
        self.check([("gap", (0, 1, 2)), ("bare", 0), ("gap", ())], 0, [[], []])

    def test_least_of_several(self):
        give = ("give", 0, ("box", 0), 1)
        self.check([("gap", (0, 1)), ("at", THING, ("hand", 1))], 2, [[give, ("take", 1, THING, 0)]])
        self.check([("gap", (0, 1)), ("at", ("box", 0), ("hand", 0)), ("at", THING, ("hand", 1))], 2, [[TAKE, moved(0, 1)]])

    def test_as_late_as_can_be(self):
        self.check([("gap", (0,)), ("gap", (0,)), ("at", THING, ("hand", 0))], 1, [[], [TAKE]])
        self.check([("gap", (0,)), ("gap", (1,)), ("at", THING, ("hand", 0))], 1, [[TAKE], []])

    def test_one_hand(self):
        rows = [("gap", (0,)), ("not", ("bare", 0)), ("at", THING, ("hand", 0))]
        self.check(rows, 2, [[TAKE, ("seal", 0, 0, 0)]])
        more = rows + [("gap", (0,)), ("at", ("seal", 1), ("box", 0))]
        self.check(more, 2, [[TAKE, ("seal", 0, 0, 1)], []])

    def test_broken_seals(self):
        rows = [("gap", (0,)), ("gone", 0), ("gone", 1)]
        self.check(rows, 4, [[("seal", 0, 0, 0), ("break", 0, 0), ("seal", 0, 0, 1), ("break", 0, 0)]])

    def test_more_than_twenty(self):
        house = House(1, (("hand", 0),), (("box", 0), ("box", 0), ("box", 0)), ())
        rows = []
        course = []
        for word, place in (("take", ("hand", 0)), ("put", ("box", 0))) * 3 + (("take", ("hand", 0)),):
            rows += [("gap", (0,))] + [("at", ("thing", number), place) for number in range(3)]
            course.append([(word, 0, ("thing", number), 0) for number in range(3)])
        self.assertEqual(fewest_course(Log(house, rows)), (21, course))

    def test_no_course(self):
        self.assertRaises(NoCourse, fewest_course, Log(HOUSE, [("gap", (1, 2)), ("gone", 0)]))

    def test_lists_may_be_modified(self):
        log = Log(HOUSE, [("gap", (0,)), ("at", THING, ("hand", 0))])
        fewest_course(log)[1][0].clear()
        self.assertEqual(fewest_course(log), (1, [[TAKE]]))


class Faults(unittest.TestCase):

    def check(self, rows, course, fault):
        self.assertEqual(first_fault(Log(HOUSE, rows), course), fault)

    def test_fits(self):
        self.check([], [], None)
        self.check([TAKE], [], None)
        self.check([("gap", (0, 1)), ("gap", (1, 2))], [[TAKE, moved(0, 1)], [moved(1, 2)]], None)

    def test_rows(self):
        self.check([("gap", (0,)), ("bare", 0), TAKE, PUT, PUT], [[]], (4, -1))
        self.check([("gap", (0,)), TAKE], [[TAKE]], (1, -1))
        self.check([("gone", 0), ("gap", (0,))], [[TAKE, TAKE]], (0, -1))
        self.check([("gap", ()), ("not", ("bare", 0))], [[]], (1, -1))

    def test_secret_deeds(self):
        self.check([("bare", 0), ("gap", (0,))], [[TAKE, PUT, PUT]], (1, 2))
        self.check([("gap", ()), ("gap", (0,)), ("gone", 0)], [[], [PUT]], (1, 0))

    def test_hands_of_the_gap(self):
        self.check([("gap", (1, 2))], [[TAKE]], (0, 0))
        self.check([("gap", ())], [[TAKE]], (0, 0))
        self.check([("gap", (0, 2))], [[TAKE, moved(0, 1)]], (0, 1))
        self.check([("gap", (0, 2))], [[TAKE, moved(0, 2)]], None)
        self.check([("gap", (0, 1)), ("gap", (1, 2))], [[TAKE], [moved(0, 1)]], (1, 0))

    def test_told_deeds_are_bound_to_no_gap(self):
        self.check([("gap", ()), TAKE, moved(0, 2)], [[]], None)

    def test_anything_unknown(self):
        for deed in (
            ("take", 9, THING, 0), ("take", -1, THING, 0), ("take", 0, ("thing", 9), 0), ("take", 0, ("seal", 0), 0),
            ("take", 0, THING, 9), ("take", 0, ("box", 0), 0), ("give", 0, ("box", 0), 0), ("give", 0, ("box", 0), 9),
            ("give", 0, ("box", 1), 1), ("put", 0, ("hand", 0), 0), ("seal", 0, 9, 0), ("seal", 0, 0, 9),
            ("break", 0, 9), ("break", 9, 0),
        ):
            self.check([("gap", (0, 1, 2)), ("gone", 0)], [[deed]], (0, 0))
            self.check([("gap", (0, 1, 2)), ("gone", 0)], [[TAKE, deed]], (0, 1))

    def test_invalid_course(self):
        for rows, course in (([], [[]]), ([("gap", ())], []), ([("gap", ())], [[], []]), ([("bare", 0)], [[]])):
            self.assertRaises(InvalidCourse, first_fault, Log(HOUSE, rows), course)

    def test_no_course_is_no_error(self):
        log = Log(HOUSE, [("gone", 0), ("gap", (0,))])
        self.assertEqual(first_fault(log, [[]]), (0, -1))
        self.assertRaises(InvalidCourse, first_fault, log, [])

    def test_arguments_are_not_modified(self):
        course = [[TAKE, PUT]]
        first_fault(Log(HOUSE, [("gap", (0,))]), course)
        self.assertEqual(course, [[TAKE, PUT]])


class Counts(unittest.TestCase):

    def test_no_secret_deeds(self):
        self.assertEqual(course_count(Log(HOUSE, []), 0), 1)
        self.assertEqual(list(courses(Log(HOUSE, []), 0)), [[]])
        log = Log(HOUSE, [("gap", (0,)), ("bare", 0), ("gap", ())])
        self.assertEqual(course_count(log, 0), 1)
        self.assertEqual(list(courses(log, 0)), [[[], []]])

    def test_without_gaps(self):
        for number in (1, 20):
            self.assertEqual(course_count(Log(HOUSE, [TAKE]), number), 0)
            self.assertEqual(list(courses(Log(HOUSE, [TAKE]), number)), [])

    def test_no_course(self):
        log = Log(HOUSE, [("gap", (1, 2)), ("gone", 0)])
        for number in (0, 1, 20):
            self.assertEqual(course_count(log, number), 0)
            self.assertEqual(list(courses(log, number)), [])

    def test_one_way_to_and_fro(self):
        house = House(1, (("hand", 0),), (("box", 0),), ())
        log = Log(house, [("gap", (0,)), ("at", THING, ("box", 0))])
        self.assertEqual([course_count(log, number) for number in range(21)], [1, 0] * 10 + [1])
        self.assertEqual(list(courses(log, 20)), [[[TAKE, PUT] * 10]])
        self.assertEqual(list(courses(log, 19)), [])

    def test_two_gaps_one_behind_the_other(self):
        house = House(1, (("hand", 0),), (("box", 0),), ())
        log = Log(house, [("gap", (0,)), ("gap", (0,)), ("at", THING, ("box", 0))])
        self.assertEqual(list(courses(log, 2)), [[[], [TAKE, PUT]], [[TAKE], [PUT]], [[TAKE, PUT], []]])
        self.assertEqual([course_count(log, number) for number in range(21)], [1, 0, 3, 0, 5, 0, 7, 0, 9, 0, 11, 0, 13,
                                                                               0, 15, 0, 17, 0, 19, 0, 21])

    def test_powers(self):
        """A lone box goes from hand to hand."""
        log = Log(House(4, (("hand", 0),), (), ()), [("gap", (0, 1, 2, 3))])
        self.assertEqual([course_count(log, number) for number in range(21)], [3 ** number for number in range(21)])
        watched = log.watched((0, 2, 3))
        self.assertEqual([course_count(watched, number) for number in range(21)], [2 ** number for number in range(21)])
        self.assertEqual(course_count(log.watched((0,)), 20), 0)
        self.assertEqual(course_count(log.watched((1, 2, 3)), 20), 0)

    def test_ascending(self):
        found = list(courses(Log(HOUSE, [("gap", (0, 1)), ("gap", (0, 2))]), 2))
        self.assertEqual(found, sorted(found))
        self.assertEqual(len(found), course_count(Log(HOUSE, [("gap", (0, 1)), ("gap", (0, 2))]), 2))

    def test_first_ones_without_the_others(self):
        log = Log(HOUSE, [("gap", (0, 1, 2)), ("gap", (0, 1, 2)), ("at", THING, ("hand", 2))])
        self.assertGreater(course_count(log, 20), 10 ** 15)
        found = list(itertools.islice(courses(log, 20), 50))
        self.assertEqual(found, sorted(found))
        for course in found:
            self.assertIsNone(first_fault(log, course))
            self.assertEqual(sum(len(deeds) for deeds in course), 20)

    def test_each_course_may_be_modified(self):
        log = Log(HOUSE, [("gap", (0,)), ("gap", (0,))])
        whole = list(courses(log, 2))
        for course, same in zip(courses(log, 2), whole):
            self.assertEqual(course, same)
            for deeds in course:
                deeds.clear()
            course.clear()

    def test_invalid_number(self):
        for log in (Log(HOUSE, [("gap", (0,))]), Log(HOUSE, [("gone", 0)])):
            for number in (-1, 21, 1000):
                self.assertRaises(InvalidNumber, course_count, log, number)
                iterator = courses(log, number)
                self.assertRaises(InvalidNumber, next, iterator)


if __name__ == "__main__":
    unittest.main()
