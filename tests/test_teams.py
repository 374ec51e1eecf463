"""Least teams, and hands that are in all of them (point 16)."""

import unittest

from calls import Calls
from sealwatch.errors import NoCourse
from sealwatch.houses import House
from sealwatch.logs import Log
from sealwatch.teams import indispensable, least_teams

# Hand 1 has the thing, hand 0 the box, hand 2 nothing.
HOUSE = House(3, (("hand", 0),), (("hand", 1),), ())
THING = ("thing", 0)
ALL = ("gap", (0, 1, 2))


class Teams(Calls):

    def check(self, house, rows, teams, hands):
        log = Log(house, rows)
        self.returns(teams, least_teams, log)
        self.returns(hands, indispensable, log)

    def test_no_deeds_needed(self):
        self.check(HOUSE, [], [()], [])
        self.check(HOUSE, [ALL, ("bare", 0)], [()], [])
        self.check(HOUSE, [("give", 1, THING, 2), ALL, ("at", THING, ("hand", 2))], [()], [])

    def test_gap_without_hands(self):
        self.check(HOUSE, [("gap", ()), ("at", THING, ("hand", 1))], [()], [])

    def test_one_hand(self):
        house = House(2, (("hand", 1),), (("box", 0),), (("box", 0),))
        self.check(house, [("gap", (1,)), ("bare", 0)], [(1,)], [1])
        self.check(house, [("gap", (0, 1)), ("at", THING, ("hand", 1))], [(1,)], [1])

    def test_who_gets_something_is_of_the_team(self):
        self.check(HOUSE, [ALL, ("at", THING, ("hand", 2))], [(1, 2)], [1, 2])
        self.check(HOUSE, [ALL, ("in", 0, (THING,))], [(0, 1)], [0, 1])

    def test_several_teams_with_a_common_hand(self):
        self.check(HOUSE, [ALL, ("not", ("at", THING, ("hand", 1)))], [(0, 1), (1, 2)], [1])

    def test_teams_of_unlike_sizes_ascend_as_tuples(self):
        house = House(3, (("hand", 2),), (("hand", 0), ("hand", 1)), ())
        rows = [("gap", (0, 2)), ("give", 2, ("box", 0), 1), ("gap", (1,)), ("not", ("in", 0, ()))]
        self.check(house, rows, [(0, 2), (1,)], [])

    def test_teams_without_a_common_hand(self):
        house = House(2, (("hand", 0),), (("box", 0),), ())
        rows = [("gap", (0,)), ("give", 0, ("box", 0), 1), ("gap", (1,)), ("in", 0, ())]
        self.check(house, rows, [(0,), (1,)], [])

    def test_hands_of_several_gaps_together(self):
        rows = [("gap", (0, 1)), ("gap", (0, 2)), ("at", THING, ("hand", 2))]
        self.check(HOUSE, rows, [(0, 1, 2)], [0, 1, 2])

    def test_a_hand_gives_only_to_its_team(self):
        """Hand 1 could bring the thing to hand 2 alone, but hand 2 is watched then."""
        self.raises(NoCourse, {}, least_teams, Log(HOUSE, [("gap", (0, 1)), ("at", THING, ("hand", 2))]))

    def test_four_hands(self):
        house = House(4, (("hand", 0),), (("hand", 0),), ())
        rows = [("gap", (0, 1, 2, 3)), ("not", ("at", THING, ("hand", 0))), ("not", ("at", THING, ("box", 0)))]
        self.check(house, rows, [(0, 1), (0, 2), (0, 3)], [0])

    def test_no_course(self):
        for rows in ([("at", THING, ("hand", 0))], [ALL, ("at", ("box", 0), ("box", 0))], [ALL, ("not", ("bare", 0))]):
            for function in (least_teams, indispensable):
                self.raises(NoCourse, {}, function, Log(HOUSE, rows))

    def test_lists_may_be_modified(self):
        log = Log(HOUSE, [ALL, ("in", 0, (THING,))])
        least_teams(log).clear()
        indispensable(log).clear()
        self.assertEqual((least_teams(log), indispensable(log)), ([(0, 1)], [0, 1]))


if __name__ == "__main__":
    unittest.main()
