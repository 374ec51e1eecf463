"""Ways that no check tells of, and checks that leave no way (point 19)."""

import unittest

from calls import Calls
from sealwatch.errors import InvalidCheck, InvalidHands, UnknownBox, UnknownHand, UnknownItem, UnknownSeal
from sealwatch.guards import guards, unnoticed_way
from sealwatch.houses import House
from sealwatch.ways import shortest_way
from sealwatch.worlds import World

# Hand 0 has a box with a thing, seal 0 is on it; hand 1 has seal 1 and thing 1.
HOUSE = House(3, (("hand", 0),), (("box", 0), ("hand", 1)), (("box", 0), ("hand", 1)))
BOX = ("box", 0)
THING = ("thing", 0)
BREAK = ("break", 0, 0)
TAKE = ("take", 0, THING, 0)
HELD = ("at", THING, ("hand", 0))
WRONG_HANDS = (((3,), 0), ((0, 3), 1), ((0, 0), 1), ((1, 0), 1), ((True,), 0))
WRONG_SIGHTS = (
    (UnknownItem, ("at", ("thing", 2), ("hand", 7))), (UnknownHand, ("at", THING, ("hand", 3))),
    (UnknownBox, ("at", THING, ("box", 1))), (UnknownBox, ("not", ("bare", 1))), (UnknownItem, ("in", 0, (("seal", 0),))),
    (UnknownSeal, ("gone", 2)),
)
WRONG_CHECKS = (("where", ("thing", 2)), ("where", ("hand", 0)), ("on", 1), ("inside", 1), ("inside", -1))


class Cases(Calls):

    def check_errors(self, function):
        for hands, index in WRONG_HANDS:
            self.raises(InvalidHands, {"index": index}, function, World(HOUSE), hands, HELD, [])
            self.raises(InvalidHands, {"index": index}, function, World(HOUSE), hands, ("bare", 5), [("on", 5)])
        for error, sight in WRONG_SIGHTS:
            self.raises(error, {}, function, World(HOUSE), (), sight, [])
            self.raises(error, {}, function, World(HOUSE), (0, 1), sight, [("on", 5)])
            self.raises(error, {}, function, World(HOUSE), (0, 1), sight, [("on", 0)] * 9)
        for check in WRONG_CHECKS:
            self.raises(InvalidCheck, {"index": 0}, function, World(HOUSE), (), ("bare", 0), [check, check])
            self.raises(InvalidCheck, {"index": 7}, function, World(HOUSE), (0,), HELD, [("on", 0)] * 7 + [check] * 3)
            self.raises(InvalidCheck, {"index": 8}, function, World(HOUSE), (0,), HELD, [("on", 0)] * 8 + [check])
        self.raises(InvalidCheck, {"index": 8}, function, World(HOUSE), (0,), HELD, [("on", 0)] * 9)


class Unnoticed(Cases):

    def check(self, hands, sight, checks, way, world=None):
        world = World(HOUSE) if world is None else world
        self.returns(way, unnoticed_way, world, hands, sight, checks)

    def test_no_checks(self):
        self.check((0,), HELD, [], [BREAK, TAKE])
        self.check((1, 2), HELD, [], None)
        self.check((0, 1), ("at", THING, ("hand", 1)), [], shortest_way(World(HOUSE), (0, 1), ("at", THING, ("hand", 1))))

    def test_true_at_once(self):
        for checks in ([], [("on", 0), ("inside", 0), ("where", THING)], [("on", 0)] * 8):
            self.check((0, 1, 2), ("not", ("bare", 0)), checks, [])
            self.check((), ("at", THING, BOX), checks, [])

    def test_cannot_be(self):
        self.check((0, 1, 2), ("at", BOX, BOX), [], None)
        self.check((0, 1, 2), ("at", BOX, BOX), [("where", BOX)], None)
        self.check((), HELD, [], None)

    def test_checks_that_tell_nothing(self):
        self.check((0,), HELD, [("where", BOX), ("where", ("thing", 1)), ("where", ("seal", 1))], [BREAK, TAKE])

    def test_checks_that_tell(self):
        for check in (("on", 0), ("inside", 0), ("where", THING), ("where", ("seal", 0))):
            self.check((0,), HELD, [("where", BOX), check], None)

    def test_what_was_taken_out_is_put_back(self):
        world = World(House(1, (("hand", 0), ("box", 0)), (("box", 1),), ()))
        way = [("take", 0, ("box", 1), 0), ("take", 0, THING, 1)]
        self.check((0,), HELD, [("where", BOX)], way, world)
        self.check((0,), HELD, [("inside", 0)], way + [("put", 0, ("box", 1), 0)], world)
        self.check((0,), HELD, [("inside", 0), ("inside", 1)], None, world)

    def test_another_seal_in_its_stead(self):
        way = [BREAK, ("give", 1, ("seal", 1), 0), ("seal", 0, 0, 1)]
        self.check((0, 1), ("at", ("seal", 1), BOX), [("inside", 0), ("where", BOX)], way)
        self.check((0, 1), ("at", ("seal", 1), BOX), [("on", 0)], None)
        self.check((0, 1), ("at", ("seal", 1), BOX), [("where", ("seal", 1))], None)
        self.check((0, 1), ("gone", 0), [("where", BOX), ("where", ("seal", 1))], [BREAK])

    def test_where_the_thing_goes(self):
        """To take it out and give it leaves the box where it is."""
        goal = ("at", THING, ("hand", 2))
        self.check((0, 2), goal, [], [BREAK, ("give", 0, BOX, 2), ("take", 2, THING, 0)])
        self.check((0, 2), goal, [("where", BOX)], [BREAK, TAKE, ("give", 0, THING, 2)])

    def test_findings_of_another_state(self):
        """The findings that have to stay are those of the world, not of the house."""
        world = World(HOUSE)(BREAK)
        self.check((0,), HELD, [("on", 0), ("where", ("seal", 0))], [TAKE], world)
        self.check((0,), HELD, [("inside", 0)], None, world)
        self.check((0,), ("in", 0, (THING,)), [("on", 0)], [("put", 0, THING, 0)], world(TAKE))

    def test_errors(self):
        self.check_errors(unnoticed_way)


class Guards(Cases):

    def check(self, hands, sight, checks, indexes, world=None):
        world = World(HOUSE) if world is None else world
        self.returns(indexes, guards, world, hands, sight, checks)
        if indexes is None:
            self.assertIsNotNone(unnoticed_way(world, hands, sight, checks))
        else:
            self.assertIsNone(unnoticed_way(world, hands, sight, [checks[index] for index in indexes]))
            for index in range(len(indexes)):
                fewer = indexes[:index] + indexes[index + 1:]
                self.assertIsNotNone(unnoticed_way(world, hands, sight, [checks[other] for other in fewer]))

    def test_no_checks(self):
        self.check((0,), HELD, [], None)
        self.check((1,), HELD, [], [])

    def test_no_way_even_without_checks(self):
        self.check((1, 2), HELD, [("on", 0), ("inside", 0)], [])
        self.check((0, 1, 2), ("at", BOX, BOX), [("on", 0)] * 8, [])
        self.check((), HELD, [("where", BOX)], [])

    def test_a_way_with_all_checks(self):
        self.check((0,), HELD, [("where", BOX), ("where", ("seal", 1))], None)
        self.check((0, 1), HELD, [("where", BOX)] * 8, None)

    def test_true_at_once(self):
        self.check((), ("at", THING, BOX), [], None)
        self.check((0, 1, 2), ("at", THING, BOX), [("on", 0), ("inside", 0), ("where", THING)], None)

    def test_first_of_several(self):
        self.check((0,), HELD, [("where", BOX), ("inside", 0), ("on", 0)], [1])
        self.check((0,), HELD, [("where", BOX), ("on", 0), ("inside", 0)], [1])
        self.check((0,), HELD, [("where", BOX)] * 7 + [("on", 0)], [7])

    def test_two_are_needed(self):
        """The thing goes to one of two other hands, or to one of two boxes: one check for each."""
        house = House(1, (("hand", 0), ("hand", 0)), (("hand", 0),), ())
        sight = ("not", ("at", THING, ("hand", 0)))
        checks = [("where", ("box", 1)), ("inside", 1), ("on", 0), ("inside", 0), ("inside", 1)]
        self.check((0,), sight, checks, [1, 3], World(house))
        self.check((0,), sight, [checks[3], checks[2], checks[1], checks[0], checks[1]], [0, 2], World(house))
        self.check((0,), sight, checks[:3], None, World(house))
        self.check((0,), sight, checks + [("where", THING)], [5], World(house))

    def test_three_are_needed(self):
        house = House(1, (("hand", 0),) * 3, (("hand", 0),), ())
        sight = ("not", ("at", THING, ("hand", 0)))
        checks = [("on", 0), ("inside", 2), ("inside", 0), ("inside", 0), ("inside", 1)]
        self.check((0,), sight, checks, [1, 2, 4], World(house))

    def test_findings_of_another_state(self):
        self.check((0,), HELD, [("on", 0), ("where", ("seal", 0))], None, World(HOUSE)(BREAK))
        self.check((0,), HELD, [("on", 0), ("inside", 0)], [1], World(HOUSE)(BREAK))

    def test_errors(self):
        self.check_errors(guards)


if __name__ == "__main__":
    unittest.main()
