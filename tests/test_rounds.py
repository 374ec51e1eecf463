"""Deeds that are done again and again (point 22)."""

import unittest

from calls import Calls
from sealwatch.errors import InvalidNumber, InvalidRound, UnknownBox, UnknownHand, UnknownItem, UnknownSeal
from sealwatch.houses import House
from sealwatch.rounds import first_round, rounds, true_rounds
from sealwatch.worlds import World

# Hand 0 has a box with a thing, seal 0 is on it; hand 1 has seal 1 and thing 1.
HOUSE = House(2, (("hand", 0),), (("box", 0), ("hand", 1)), (("box", 0), ("hand", 1)))
WORLD = World(HOUSE)
BREAK = ("break", 0, 0)
THERE = ("give", 1, ("thing", 1), 0)
BACK = ("give", 0, ("thing", 1), 1)
TAKE = ("take", 0, ("thing", 0), 0)
PUT = ("put", 0, ("thing", 0), 0)
HELD = ("at", ("thing", 1), ("hand", 0))
MANY = 10 ** 18


def behind(*deeds):
    world = WORLD
    for deed in deeds:
        world = world(deed)
    return world.state


class Rounds(Calls):

    def check(self, deeds, count, state, stop):
        self.returns((state, stop), rounds, WORLD, deeds, count)

    def test_none_is_begun(self):
        self.check([BREAK], 0, HOUSE.state, None)
        self.check([TAKE], 0, HOUSE.state, None)

    def test_one_round(self):
        self.check([BREAK, TAKE], 1, behind(BREAK, TAKE), None)
        self.check([THERE, BACK], 1, HOUSE.state, None)

    def test_rounds_that_come_again(self):
        for count in (1, 2, 3, 10, MANY - 1, MANY):
            self.check([THERE, BACK], count, HOUSE.state, None)
            self.check([THERE, BACK] * 6, count, HOUSE.state, None)
            self.returns((behind(BREAK), None), rounds, World(HOUSE)(BREAK)(TAKE), [PUT, TAKE, PUT, TAKE, PUT], 1)
            self.returns((behind(BREAK, TAKE), None), rounds, World(HOUSE)(BREAK), [TAKE, PUT, TAKE], 1)
            self.returns((behind(BREAK), None), rounds, World(HOUSE)(BREAK), [TAKE, PUT], count)

    def test_stop_in_the_first_round(self):
        for count in (1, 2, MANY):
            self.check([TAKE], count, HOUSE.state, (0, 0))
            self.check([BREAK, TAKE, TAKE, PUT], count, behind(BREAK, TAKE), (0, 2))
            self.check([BREAK, BREAK], count, behind(BREAK), (0, 1))
            self.check([THERE] * 12, count, behind(THERE), (0, 1))

    def test_stop_in_a_later_round(self):
        """A round is done whole, but what it needs is not there again."""
        for count in (2, 3, MANY):
            self.check([BREAK], count, behind(BREAK), (1, 0))
            self.check([THERE], count, behind(THERE), (1, 0))
            self.check([THERE, BREAK, BACK], count, behind(BREAK, THERE), (1, 1))
        give = ("give", 1, ("seal", 1), 0)
        self.check([("give", 0, ("box", 0), 1), ("give", 1, ("box", 0), 0), THERE, BACK, give], MANY,
                   behind(give), (1, 4))

    def test_a_new_seal_does_for_one_round_more(self):
        seal = ("seal", 0, 0, 1)
        give = ("give", 1, ("seal", 1), 0)
        world = WORLD(give)
        self.returns((behind(give, BREAK, seal), None), rounds, world, [BREAK, seal], 1)
        self.returns((behind(give, BREAK, seal, BREAK), (1, 1)), rounds, world, [BREAK, seal], 2)
        self.returns((behind(give, BREAK, seal, BREAK), (1, 1)), rounds, world, [BREAK, seal], MANY)

    def test_from_another_state(self):
        self.returns((behind(BREAK), None), rounds, World(HOUSE)(BREAK)(TAKE), [PUT], 1)
        self.returns((behind(BREAK), (1, 0)), rounds, World(HOUSE)(BREAK)(TAKE), [PUT], 2)

    def test_the_first_world_stays(self):
        world = World(HOUSE)
        rounds(world, [BREAK], 5)
        self.assertEqual(world.state, HOUSE.state)

    def test_twelve_deeds(self):
        self.check([THERE, BACK] * 6, 5, HOUSE.state, None)
        self.check([THERE, BACK] * 5 + [THERE], 5, behind(THERE), (1, 0))


class TrueRounds(Calls):

    def check(self, deeds, sight, count, worth, world=WORLD):
        self.returns(worth, true_rounds, world, deeds, sight, count)

    def test_none(self):
        self.check([BREAK], ("not", ("gone", 0)), 0, 0)
        self.check([BREAK], ("gone", 0), 0, 0)

    def test_the_beginning_does_not_count(self):
        self.check([BREAK], ("not", ("gone", 0)), 1, 0)
        self.check([THERE, BACK], ("not", HELD), 1, 1)

    def test_a_round_that_is_not_done_whole_does_not_count(self):
        for count in (1, 2, MANY):
            self.check([BREAK], ("gone", 0), count, 1)
            self.check([BREAK, TAKE, TAKE], ("gone", 0), count, 0)
            self.check([TAKE], ("at", ("thing", 0), ("box", 0)), count, 0)
            self.check([BREAK, THERE], ("not", HELD), count, 0)

    def test_rounds_that_come_again(self):
        for count in (1, 2, 3, 9, MANY - 1, MANY):
            self.check([THERE, BACK], ("not", HELD), count, count)
            self.check([THERE, BACK], HELD, count, 0)
            self.check([THERE, BACK] * 6, ("bare", 0), count, 0)
            self.check([PUT, TAKE], ("in", 0, ()), count, count, WORLD(BREAK)(TAKE))

    def test_only_the_state_behind_a_round_counts(self):
        self.check([THERE, BACK, THERE], HELD, 1, 1)
        self.check([THERE, BACK], HELD, 5, 0)


class FirstRound(Calls):

    def check(self, deeds, sight, worth, world=WORLD):
        self.returns(worth, first_round, world, deeds, sight)

    def test_true_at_once(self):
        self.check([BREAK], ("not", ("gone", 0)), 0)
        self.check([TAKE], ("not", ("gone", 0)), 0)
        self.check([THERE, BACK], ("not", HELD), 0)

    def test_behind_the_first(self):
        self.check([BREAK], ("gone", 0), 1)
        self.check([THERE], HELD, 1)
        self.check([TAKE, PUT, TAKE], ("in", 0, ()), 1, WORLD(BREAK))

    def test_never(self):
        self.check([THERE, BACK], HELD, None)
        self.check([BREAK], ("gone", 1), None)
        self.check([BREAK, TAKE, TAKE], ("gone", 0), None)
        self.check([BREAK], ("at", ("box", 0), ("box", 0)), None)
        self.check([THERE, BACK] * 6, ("gone", 0), None)


class Wrong(Calls):
    """Wrong inputs, and the order of errors."""

    deeds = (
        ("give", 2, ("thing", 0), 0), ("give", 0, ("thing", 2), 1), ("give", 0, ("thing", 0), 2), ("give", 0, ("thing", 0), 0),
        ("put", 0, ("thing", 0), 1), ("put", 0, ("seal", 1), 0), ("take", 0, ("seal", 0), 0), ("take", 0, ("box", 0), 0),
        ("put", 0, ("box", 0), 0), ("seal", 0, 1, 0), ("seal", 0, 0, 2), ("break", 0, 1), ("break", 2, 0), ("break", True, 0),
    )

    def check(self, index, deeds):
        for count in (0, 1, -1, True):
            self.raises(InvalidRound, {"index": index}, rounds, WORLD, deeds, count)
            self.raises(InvalidRound, {"index": index}, true_rounds, WORLD, deeds, ("gone", 0), count)
            self.raises(InvalidRound, {"index": index}, true_rounds, WORLD, deeds, ("gone", 9), count)
        self.raises(InvalidRound, {"index": index}, first_round, WORLD, deeds, ("not", ("gone", 0)))
        self.raises(InvalidRound, {"index": index}, first_round, WORLD, deeds, ("gone", 9))

    def test_no_deeds(self):
        self.check(0, [])

    def test_thirteen_deeds(self):
        self.check(12, [BREAK] * 13)
        self.check(12, [BREAK] * 20)
        self.check(12, [BREAK] * 12 + [("break", 0, 1)])
        self.check(11, [BREAK] * 11 + [("break", 0, 1)] * 3)

    def test_wrong_deeds(self):
        for deed in self.deeds:
            self.check(0, [deed])
            self.check(2, [BREAK, TAKE, deed, deed])

    def test_wrong_sights(self):
        for error, sight in (
            (UnknownItem, ("at", ("thing", 2), ("hand", 7))), (UnknownHand, ("not", ("at", ("thing", 0), ("hand", 2)))),
            (UnknownBox, ("bare", 1)), (UnknownItem, ("in", 0, (("seal", 0),))), (UnknownSeal, ("gone", 2)),
        ):
            for count in (0, 1, -1, MANY + 1):
                self.raises(error, {}, true_rounds, WORLD, [BREAK], sight, count)
            self.raises(error, {}, first_round, WORLD, [BREAK], sight)

    def test_wrong_numbers(self):
        for count in (-1, MANY + 1, True, False, 10 ** 30):
            self.raises(InvalidNumber, {}, rounds, WORLD, [BREAK], count)
            self.raises(InvalidNumber, {}, true_rounds, WORLD, [BREAK], ("gone", 0), count)


if __name__ == "__main__":
    unittest.main()
