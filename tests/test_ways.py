"""Shortest ways, and what is in reach (point 16)."""

import unittest

from calls import Calls
from sealwatch.errors import InvalidHands, UnknownBox, UnknownHand, UnknownItem, UnknownSeal
from sealwatch.houses import House
from sealwatch.ways import reachable, shortest_way
from sealwatch.worlds import World

# Hand 0 has a box with a thing, seal 0 is on it; hand 1 has seal 1.
HOUSE = House(3, (("hand", 0),), (("box", 0),), (("box", 0), ("hand", 1)))
BOX = ("box", 0)
THING = ("thing", 0)
BREAK = ("break", 0, 0)
TAKE = ("take", 0, THING, 0)
WRONG_HANDS = (((3,), 0), ((0, 3), 1), ((-1, 0), 0), ((0, 0), 1), ((1, 0), 1), ((0, 2, 1), 2), ((True,), 0))


class Ways(Calls):

    def check(self, hands, sight, way, deeds=()):
        world = World(HOUSE)
        for deed in deeds:
            world = world(deed)
        self.returns(way, shortest_way, world, hands, sight)
        if way is not None:
            for deed in way:
                world = world(deed)
            self.assertTrue(world.is_so(sight))

    def test_true_at_once(self):
        for hands in ((), (2,), (0, 1, 2)):
            self.check(hands, ("at", THING, ("box", 0)), [])
            self.check(hands, ("not", ("bare", 0)), [])

    def test_one_hand_alone(self):
        self.check((0,), ("bare", 0), [BREAK])
        self.check((0,), ("at", THING, ("hand", 0)), [BREAK, TAKE])
        self.check((0, 1, 2), ("at", THING, ("hand", 0)), [BREAK, TAKE])

    def test_broken_seals(self):
        self.check((0, 1), ("gone", 0), [BREAK])
        self.check((0, 1), ("gone", 1), [BREAK, ("give", 0, BOX, 1), ("seal", 1, 0, 1), ("break", 1, 0)])
        self.check((0, 1), ("not", ("gone", 0)), None, [BREAK])
        self.check((0, 1), ("at", ("seal", 0), ("box", 0)), None, [BREAK])

    def test_least_of_several(self):
        """To give the box and take out the thing is less than to take it out and give it."""
        self.check((0, 2), ("at", THING, ("hand", 2)), [BREAK, ("give", 0, BOX, 2), ("take", 2, THING, 0)])
        self.check((0, 1), ("at", ("seal", 1), BOX), [BREAK, ("give", 0, BOX, 1), ("seal", 1, 0, 1)])

    def test_fewest_come_before_least(self):
        self.check((0, 2), ("at", BOX, ("hand", 2)), [("give", 0, BOX, 2)])

    def test_from_another_state(self):
        self.check((0, 2), ("at", THING, ("hand", 2)), [("give", 0, THING, 2)], [BREAK, TAKE])
        self.check((2,), ("bare", 0), [("break", 2, 0)], [("give", 0, BOX, 2)])

    def test_gives_to_one_another_alone(self):
        self.check((0, 2), ("at", THING, ("hand", 1)), None)
        self.check((1,), ("at", THING, ("hand", 1)), None)
        self.check((), ("bare", 0), None)

    def test_what_cannot_be(self):
        self.check((0, 1, 2), ("at", BOX, ("box", 0)), None)
        self.check((0, 1, 2), ("in", 0, (BOX,)), None)

    def test_boxes_in_boxes(self):
        house = House(1, (("hand", 0), ("box", 0), ("box", 1)), (("box", 2),), (("box", 1),))
        way = [("take", 0, ("box", 1), 0), ("break", 0, 1), ("take", 0, ("box", 2), 1), ("take", 0, THING, 2)]
        self.returns(way, shortest_way, World(house), (0,), ("at", THING, ("hand", 0)))
        way = way[:3] + [("put", 0, ("box", 0), 2)]
        self.returns(way, shortest_way, World(house), (0,), ("at", ("box", 0), ("box", 2)))

    def test_sights_of_contents(self):
        house = House(2, (("hand", 0),), (("hand", 1), ("box", 0)), ())
        way = [("give", 0, BOX, 1), ("put", 1, ("thing", 0), 0), ("take", 1, ("thing", 1), 0)]
        self.returns(way, shortest_way, World(house), (0, 1), ("in", 0, (("thing", 0),)))
        self.returns([("take", 0, ("thing", 1), 0)], shortest_way, World(house), (0,), ("in", 0, ()))

    def test_errors(self):
        for hands, index in WRONG_HANDS:
            self.raises(InvalidHands, {"index": index}, shortest_way, World(HOUSE), hands, ("bare", 0))
            self.raises(InvalidHands, {"index": index}, shortest_way, World(HOUSE), hands, ("bare", 7))
        for error, sight in (
            (UnknownItem, ("at", ("thing", 1), ("hand", 7))), (UnknownHand, ("at", THING, ("hand", 3))),
            (UnknownBox, ("at", THING, ("box", 1))), (UnknownBox, ("bare", 1)), (UnknownBox, ("not", ("in", 1, ()))),
            (UnknownItem, ("in", 0, (("seal", 0),))), (UnknownSeal, ("not", ("gone", 2))),
        ):
            self.raises(error, {}, shortest_way, World(HOUSE), (0, 1), sight)
            self.raises(error, {}, shortest_way, World(HOUSE), (), sight)


class Reach(Calls):

    def test_all_of_one_hand(self):
        closed = HOUSE.state
        opened = (closed[0], closed[1], (("gone", 0), ("hand", 1)))
        taken = (closed[0], (("hand", 0),), opened[2])
        self.returns([closed, opened, taken], reachable, HOUSE, [closed], (0,))
        self.returns([opened, taken], reachable, HOUSE, [taken], (0,))
        self.returns([opened, taken], reachable, HOUSE, [taken, opened, taken], (0,))

    def test_no_hands_and_no_states(self):
        states = [World(HOUSE)(BREAK).state, HOUSE.state, HOUSE.state]
        self.returns(sorted(states[:2]), reachable, HOUSE, states, ())
        self.returns(sorted(states[:2]), reachable, HOUSE, states, (2,))
        self.returns([], reachable, HOUSE, [], (0, 1, 2))

    def test_from_several_states(self):
        """Hand 2 alone can give nothing away, and what it holds differs."""
        house = House(3, (("hand", 2),), (("hand", 2), ("hand", 0)), ())
        other = ((("hand", 1),), (("hand", 0), ("hand", 2)), ())
        inside = ((("hand", 2),), (("box", 0), ("hand", 0)), ())
        self.returns([other, inside, house.state], reachable, house, [house.state, other], (2,))

    def test_gives_to_one_another_alone(self):
        house = House(3, (("hand", 2),), (("hand", 0),), ())
        states = [((("hand", 2),), (("hand", hand),), ()) for hand in (0, 1)]
        self.returns(states, reachable, house, [house.state], (0, 1))

    def test_all_ascending(self):
        house = House(2, (("hand", 0), ("box", 0)), (), ())
        places = [(("box", 1), ("hand", 0)), (("box", 1), ("hand", 1)), (("hand", 0), ("box", 0)),
                  (("hand", 0), ("hand", 0)), (("hand", 0), ("hand", 1)), (("hand", 1), ("box", 0)),
                  (("hand", 1), ("hand", 0)), (("hand", 1), ("hand", 1))]
        self.returns([(boxes, (), ()) for boxes in places], reachable, house, [house.state], (0, 1))

    def test_errors(self):
        for hands, index in WRONG_HANDS:
            self.raises(InvalidHands, {"index": index}, reachable, HOUSE, [HOUSE.state], hands)
            self.raises(InvalidHands, {"index": index}, reachable, HOUSE, [], hands)


if __name__ == "__main__":
    unittest.main()
