"""Who touches an item, and when (points 12 and 13)."""

import unittest

from sealwatch.errors import NoCourse, UnknownHand, UnknownItem
from sealwatch.houses import House
from sealwatch.logs import Log
from sealwatch.touching import touch_span, touch_words

HOUSE = House(3, (("hand", 0), ("box", 0)), (("box", 0), ("hand", 1)), (("hand", 0),))
THING = ("thing", 0)
OTHER = ("thing", 1)


class Words(unittest.TestCase):

    def check(self, rows, item, words):
        self.assertEqual(touch_words(Log(HOUSE, rows), item), words)

    def test_held_at_the_beginning(self):
        self.check([], OTHER, ["never", "surely", "never"])
        self.check([("give", 1, OTHER, 2)], OTHER, ["never", "surely", "surely"])
        self.check([("gap", (1, 2))], OTHER, ["never", "surely", "perhaps"])

    def test_what_is_in_a_box_is_not_touched(self):
        self.check([("give", 0, ("box", 0), 1)], THING, ["never"] * 3)
        self.check([("gap", ())], ("box", 1), ["never"] * 3)

    def test_told_deeds(self):
        self.check([("take", 0, THING, 0), ("put", 0, THING, 0)], THING, ["surely", "never", "never"])

    def test_secret_deeds(self):
        self.check([("gap", (0,)), ("at", THING, ("hand", 0))], THING, ["surely", "never", "never"])
        self.check([("gap", (0, 1, 2)), ("at", THING, ("hand", 2))], THING, ["perhaps", "perhaps", "surely"])
        self.check([("gap", (0, 1)), ("gap", (1, 2)), ("at", THING, ("hand", 2))], THING,
                   ["perhaps", "perhaps", "surely"])

    def test_carried_in_a_box(self):
        """Hand 1 can pass the thing on in box 1 without touching it, unless this box stays in the other one."""
        carried = [("gap", (0, 1)), ("at", ("box", 0), ("hand", 0)), ("gap", (1, 2)), ("at", THING, ("hand", 2))]
        self.check(carried, THING, ["perhaps", "perhaps", "surely"])
        stays = carried[:1] + [("at", ("box", 1), ("box", 0))] + carried[1:]
        self.check(stays, THING, ["perhaps", "surely", "surely"])

    def test_only_in_courses_that_fit(self):
        self.check([("gap", (0, 1)), ("at", OTHER, ("hand", 1)), ("in", 0, (("box", 1), THING))], ("seal", 0),
                   ["surely", "perhaps", "never"])
        self.check([("gap", (0, 1)), ("not", ("bare", 0)), ("give", 0, OTHER, 2)], OTHER,
                   ["surely", "surely", "surely"])

    def test_seals(self):
        self.check([("gap", (0, 1)), ("gone", 0)], ("seal", 0), ["surely", "perhaps", "never"])
        sealed = House(2, (("hand", 0),), (), (("box", 0),))
        self.assertEqual(touch_words(Log(sealed, [("gap", (0, 1)), ("gone", 0)]), ("seal", 0)), ["never", "never"])

    def test_a_word_for_each_hand(self):
        for hands in (1, 2, 3, 4):
            house = House(hands, (("hand", 0),), (), ())
            self.assertEqual(touch_words(Log(house, []), ("box", 0)), ["surely"] + ["never"] * (hands - 1))

    def test_errors(self):
        log = Log(HOUSE, [("gone", 0)])
        for item in (("thing", 2), ("box", 2), ("seal", 1), ("hand", 0)):
            self.assertRaises(UnknownItem, touch_words, log, item)
        self.assertRaises(NoCourse, touch_words, log, THING)


class Spans(unittest.TestCase):

    def check(self, rows, item, spans):
        self.assertEqual([touch_span(Log(HOUSE, rows), item, hand) for hand in range(3)], spans)

    def test_without_rows(self):
        self.check([], OTHER, [None, (0, 0), None])
        self.check([], THING, [None, None, None])

    def test_told_deeds(self):
        rows = [("bare", 0), ("take", 0, THING, 0), ("give", 0, THING, 2), ("bare", 0)]
        self.check(rows, THING, [(2, 2), None, (3, 4)])

    def test_given_away_first(self):
        self.check([("gap", (1, 2)), ("at", OTHER, ("hand", 2))], OTHER, [None, (0, 1), (1, 2)])

    def test_given_and_given_back(self):
        self.check([("gap", (1, 2)), ("at", OTHER, ("hand", 1))], OTHER, [None, (0, 2), (1, 1)])

    def test_two_gaps_one_behind_the_other(self):
        rows = [("gap", (0, 1)), ("gap", (1, 2)), ("at", THING, ("hand", 2))]
        self.check(rows, THING, [(1, 1), (1, 2), (2, 3)])

    def test_each_moment_in_a_course_of_its_own(self):
        rows = [("gap", (0,)), ("bare", 0), ("gap", (0,)), ("at", THING, ("box", 0))]
        self.check(rows, THING, [(1, 3), None, None])

    def test_only_in_courses_that_fit(self):
        rows = [("gap", (0,)), ("at", THING, ("box", 0)), ("gap", ()), ("bare", 0)]
        self.check(rows, THING, [(1, 1), None, None])
        sealed = [("gap", (0,)), ("seal", 0, 0, 0), ("gap", (0,)), ("at", THING, ("box", 0)), ("not", ("gone", 0))]
        self.check(sealed, THING, [(1, 1), None, None])

    def test_errors(self):
        log = Log(HOUSE, [("gone", 0)])
        self.assertRaises(UnknownItem, touch_span, log, ("thing", 2), 9)
        self.assertRaises(UnknownHand, touch_span, log, THING, 3)
        self.assertRaises(UnknownHand, touch_span, log, THING, -1)
        self.assertRaises(NoCourse, touch_span, log, THING, 0)


if __name__ == "__main__":
    unittest.main()
