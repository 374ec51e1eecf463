"""Suspects: one hand alone did all secret deeds (point 25)."""

import unittest

from calls import Calls
from sealwatch.errors import (
    InvalidCheck, InvalidLog, NoCourse, UnknownBox, UnknownHand, UnknownItem, UnknownSeal,
)
from sealwatch.houses import House
from sealwatch.logs import Log
from sealwatch.suspects import Suspects

# Hand 0 has a box with a thing, seal 0 is on it; hand 2 has another box, with thing 1; hand 1 holds nothing.
HOUSE = House(3, (("hand", 0), ("hand", 2)), (("box", 0), ("box", 1)), (("box", 0),))
ALL = ("gap", (0, 1, 2))
BARE = ("bare", 0)
GONE = ("gone", 0)
THING = ("thing", 0)
OTHER = ("thing", 1)


def suspects_of(*rows):
    return Suspects(Log(HOUSE, rows))


class Shown(Calls):

    def shows(self, suspects, candidates, rows):
        self.assertEqual(suspects.candidates, candidates)
        self.assertIs(type(suspects.candidates), tuple)
        self.assertEqual(suspects.log(), Log(HOUSE, rows))

    def fails(self, suspects, error, attributes, row):
        """A row raises an error, and changes nothing."""
        candidates = suspects.candidates
        rows = suspects.log().rows
        self.raises(error, attributes, suspects.see, row)
        self.shows(suspects, candidates, rows)
        for hand in range(3):
            self.assertIs(suspects.can_be(hand, ("at", ("box", 1), ("hand", 2))), hand in candidates)


class Candidates(Shown):

    def test_without_rows(self):
        self.shows(suspects_of(), (0, 1, 2), [])

    def test_without_gaps(self):
        self.shows(suspects_of(("break", 0, 0), GONE), (0, 1, 2), [("break", 0, 0), GONE])

    def test_no_secret_deeds_are_needed(self):
        self.shows(suspects_of(ALL, ("not", GONE), ("gap", (1,))), (0, 1, 2), [ALL, ("not", GONE), ("gap", (1,))])

    def test_one_hand(self):
        self.shows(suspects_of(ALL, BARE), (0,), [ALL, BARE])
        self.shows(suspects_of(ALL, ("at", OTHER, ("hand", 2))), (2,), [ALL, ("at", OTHER, ("hand", 2))])

    def test_a_hand_that_is_watched(self):
        """In each gap only hands that are unwatched in it can do something."""
        rows = [("gap", (0,)), BARE, ("gap", (1, 2)), ("at", ("box", 0), ("hand", 0))]
        self.shows(suspects_of(*rows), (0,), rows)
        self.raises(NoCourse, {}, suspects_of, ("gap", (1, 2)), BARE)
        rows = [("gap", (0, 2)), ("not", ("in", 1, (OTHER,))), ("gap", (0, 1)), ("in", 1, ())]
        self.shows(suspects_of(*rows), (2,), rows)
        self.raises(NoCourse, {}, suspects_of, *rows, ("in", 1, (OTHER,)))
        self.raises(NoCourse, {}, suspects_of, ("gap", (0, 1)), ("in", 1, ()))

    def test_gap_of_no_hands(self):
        self.shows(suspects_of(("gap", ()), ("not", GONE)), (0, 1, 2), [("gap", ()), ("not", GONE)])
        self.raises(NoCourse, {}, suspects_of, ("gap", ()), GONE)

    def test_two_hands_would_be_needed(self):
        self.raises(NoCourse, {}, suspects_of, ALL, GONE, ("in", 1, ()))
        self.raises(NoCourse, {}, suspects_of, ALL, ("at", ("box", 0), ("hand", 1)))

    def test_what_one_hand_gives_the_others_cannot_do(self):
        self.raises(NoCourse, {}, suspects_of, ALL, ("at", THING, ("hand", 1)))

    def test_no_course_at_all(self):
        self.raises(NoCourse, {}, suspects_of, GONE)
        self.raises(NoCourse, {}, suspects_of, ALL, ("take", 1, ("thing", 0), 0))

    def test_told_deeds_are_bound_to_nobody(self):
        give = ("give", 0, ("box", 0), 1)
        self.shows(suspects_of(give, ALL, GONE), (1,), [give, ALL, GONE])
        self.shows(suspects_of(ALL, give, ("take", 2, OTHER, 1)), (0, 1, 2), [ALL, give, ("take", 2, OTHER, 1)])


class Seeing(Shown):

    def test_candidates_go(self):
        suspects = suspects_of(ALL)
        self.assertEqual(suspects.see(("not", ("in", 1, ()))), 3)
        self.shows(suspects, (0, 1, 2), [ALL, ("not", ("in", 1, ()))])
        self.assertEqual(suspects.see(ALL), 3)
        self.assertEqual(suspects.see(("not", ("at", OTHER, ("box", 1)))), 1)
        self.assertEqual(suspects.candidates, (2,))
        self.assertEqual(suspects.see(("in", 1, ())), 1)

    def test_a_gap_is_added(self):
        suspects = suspects_of()
        self.assertEqual(suspects.see(("gap", (0, 1))), 3)
        self.fails(suspects, NoCourse, {}, ("in", 1, ()))
        self.assertEqual(suspects.see(("gap", (1, 2))), 3)
        self.fails(suspects, NoCourse, {}, ("at", ("box", 0), ("hand", 2)))
        self.assertEqual(suspects.see(("in", 1, ())), 1)
        self.shows(suspects, (2,), [("gap", (0, 1)), ("gap", (1, 2)), ("in", 1, ())])
        self.fails(suspects, NoCourse, {}, GONE)

    def test_a_deed_is_added(self):
        suspects = suspects_of(ALL)
        self.fails(suspects, NoCourse, {}, ("take", 1, OTHER, 1))
        self.assertEqual(suspects.see(("put", 0, THING, 0)), 1)
        self.shows(suspects, (0,), [ALL, ("put", 0, THING, 0)])
        self.assertEqual(suspects.see(("give", 0, ("box", 0), 1)), 1)
        self.assertIs(suspects.can_be(0, ("at", ("box", 0), ("hand", 1))), True)

    def test_none_would_remain(self):
        suspects = suspects_of(ALL, BARE)
        self.fails(suspects, NoCourse, {}, ("in", 1, ()))
        self.fails(suspects, NoCourse, {}, ("not", GONE))
        self.assertEqual(suspects.see(("in", 1, (OTHER,))), 1)

    def test_invalid_rows(self):
        for row in (
            ("give", 0, THING, 0), ("give", 3, THING, 0), ("put", 0, ("seal", 0), 0), ("take", 0, ("box", 0), 0), ("bare", 2),
            ("gone", 1), ("gap", (1, 0)), ("gap", (3,)), ("in", 0, (("seal", 0),)), ("not", ("at", ("thing", 2), ("hand", 0))),
        ):
            self.fails(suspects_of(), InvalidLog, {"index": 0}, row)
            self.fails(suspects_of(ALL, BARE), InvalidLog, {"index": 2}, row)

    def test_thirty_rows_and_one_more(self):
        suspects = suspects_of(*[ALL] * 29)
        self.fails(suspects, InvalidLog, {"index": 29}, ("bare", 2))
        self.assertEqual(suspects.see(BARE), 1)
        for row in (BARE, ("not", BARE), ("bare", 2)):
            self.fails(suspects, InvalidLog, {"index": 30}, row)

    def test_the_log_stays(self):
        log = Log(HOUSE, [ALL])
        suspects = Suspects(log)
        suspects.see(BARE)
        self.assertEqual(log, Log(HOUSE, [ALL]))
        self.assertEqual(Suspects(log).candidates, (0, 1, 2))


class CanBe(Shown):

    def test_sights(self):
        suspects = suspects_of(ALL)
        for hand, sight, worth in (
            (0, GONE, True), (0, ("not", GONE), True), (1, GONE, False), (1, ("not", GONE), True), (2, GONE, False),
            (0, ("at", THING, ("hand", 0)), True), (0, ("at", THING, ("hand", 1)), False), (2, ("in", 1, ()), True),
            (0, ("in", 1, ()), False), (2, ("at", ("box", 1), ("hand", 2)), True), (2, ("not", ("at", ("box", 1), ("hand", 2))), False),
        ):
            self.returns(worth, suspects.can_be, hand, sight)

    def test_hand_that_no_longer_remains(self):
        suspects = suspects_of(ALL, BARE)
        for sight in (GONE, BARE, ("at", OTHER, ("box", 1))):
            self.returns(True, suspects.can_be, 0, sight)
            self.returns(False, suspects.can_be, 1, sight)
            self.returns(False, suspects.can_be, 2, sight)

    def test_behind_rows_that_are_added(self):
        suspects = suspects_of(ALL)
        self.returns(True, suspects.can_be, 2, ("in", 1, ()))
        suspects.see(BARE)
        self.returns(False, suspects.can_be, 2, ("in", 1, ()))
        self.returns(False, suspects.can_be, 0, ("not", BARE))

    def test_errors(self):
        for suspects in (suspects_of(ALL), suspects_of(ALL, BARE)):
            for hand in (-1, 3, True, False, 10):
                self.raises(UnknownHand, {}, suspects.can_be, hand, GONE)
                self.raises(UnknownHand, {}, suspects.can_be, hand, ("gone", 7))
            for hand in (0, 1):
                for error, sight in (
                    (UnknownItem, ("at", ("thing", 2), ("hand", 7))), (UnknownHand, ("at", THING, ("hand", 3))),
                    (UnknownBox, ("not", ("bare", 2))), (UnknownSeal, ("gone", 1)), (UnknownItem, ("in", 0, (("seal", 0),))),
                    (UnknownBox, ("at", THING, ("box", 2))), (UnknownItem, ("in", 0, (OTHER, THING))),
                ):
                    self.raises(error, {}, suspects.can_be, hand, sight)


class Telling(Shown):

    def test_without_checks(self):
        self.returns(None, suspects_of(ALL).telling, [])

    def test_the_first_that_leaves_the_fewest(self):
        """The box went through all hands; who had it took the thing, and still has it."""
        house = House(3, (("hand", 0), ("hand", 0)), (("box", 0), ("box", 0)), (("hand", 2),))
        gives = [ALL, ("give", 0, ("box", 0), 1), ALL, ("give", 1, ("box", 0), 2), ALL]
        suspects = Suspects(Log(house, gives))
        self.assertEqual(suspects.see(("not", ("at", THING, ("box", 0)))), 3)
        where = ("where", THING)
        for checks, worth in (
            ([where], 0), ([("on", 0), where], 1), ([("where", ("box", 0)), ("on", 1), where, where], 2),
            ([("on", 0), ("inside", 1)], 0), ([("inside", 1), ("on", 0)], 0), ([("where", OTHER), where, ("on", 0)], 1),
        ):
            self.returns(worth, suspects.telling, checks)
        self.assertEqual(suspects.see(("at", THING, ("hand", 1))), 1)
        self.returns(0, suspects.telling, [("on", 0), where])

    def test_the_worst_finding_counts(self):
        """Hand 0 alone can have put thing 1 into the box, but each hand can have emptied it."""
        house = House(3, (("hand", 0),), (("box", 0), ("hand", 0)), ())
        rows = [ALL, ("give", 0, ("box", 0), 1), ALL, ("give", 1, ("box", 0), 2), ALL, ("give", 2, ("box", 0), 1)]
        suspects = Suspects(Log(house, rows))
        self.assertEqual(suspects.candidates, (0, 1, 2))
        self.returns(0, suspects.telling, [("inside", 0), ("where", THING), ("where", OTHER)])
        suspects.see(("not", ("in", 0, (THING,))))
        self.assertEqual(suspects.candidates, (0, 1, 2))
        self.returns(0, suspects.telling, [("where", THING), ("inside", 0)])
        self.returns(1, suspects.telling, [("inside", 0), ("where", THING)])

    def test_one_candidate(self):
        suspects = suspects_of(ALL, BARE)
        self.returns(0, suspects.telling, [("where", THING), ("on", 0), ("inside", 1)])

    def test_errors(self):
        suspects = suspects_of(ALL, BARE)
        good = ("on", 0)
        for check in (("on", 2), ("inside", 2), ("where", ("thing", 2)), ("where", ("seal", 1)), ("on", True), ("inside", -1)):
            self.raises(InvalidCheck, {"index": 0}, suspects.telling, [check])
            self.raises(InvalidCheck, {"index": 2}, suspects.telling, [good, good, check, check])
            self.raises(InvalidCheck, {"index": 7}, suspects.telling, [good] * 7 + [check] * 3)
        self.raises(InvalidCheck, {"index": 8}, suspects.telling, [good] * 9)
        self.raises(InvalidCheck, {"index": 8}, suspects.telling, [good] * 8 + [("on", 2)])
        self.returns(0, suspects.telling, [good] * 8)


if __name__ == "__main__":
    unittest.main()
