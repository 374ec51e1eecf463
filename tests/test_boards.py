"""Boards (point 28)."""

import unittest

from calls import Calls
from sealwatch.boards import board
from sealwatch.houses import House
from sealwatch.worlds import World


class Boards(Calls):

    def check(self, house, deeds, *lines):
        world = World(house)
        for deed in deeds:
            world = world(deed)
        self.returns("\n".join(lines), board, world)

    def test_a_hand_that_holds_nothing(self):
        self.check(House(1, (("hand", 0),), (), ()), [], "hand 0: box 0")
        self.check(House(3, (("hand", 1),), (), ()), [], "hand 0:", "hand 1: box 0", "hand 2:")

    def test_ascending(self):
        house = House(2, (("hand", 1), ("hand", 1)), (("hand", 1), ("hand", 0), ("hand", 1)), (("hand", 0), ("hand", 1)))
        self.check(house, [], "hand 0: seal 0, thing 1", "hand 1: box 0, box 1, seal 1, thing 0, thing 2")

    def test_a_box_with_things(self):
        house = House(1, (("hand", 0), ("box", 0)), (("box", 0), ("hand", 0), ("box", 0)), ())
        self.check(house, [], "hand 0: box 0 [box 1, thing 0, thing 2], thing 1")

    def test_a_box_with_a_seal(self):
        house = House(1, (("hand", 0), ("hand", 0)), (("hand", 0),), (("hand", 0), ("box", 1)))
        self.check(house, [], "hand 0: box 0, box 1 (seal 1), seal 0, thing 0")

    def test_a_box_with_a_seal_and_things(self):
        house = House(2, (("hand", 0), ("box", 0), ("box", 1)), (("box", 2), ("box", 0)), (("box", 2), ("box", 0), ("hand", 1)))
        self.check(house, [], "hand 0: box 0 (seal 1) [box 1 [box 2 (seal 0) [thing 0]], thing 1]", "hand 1: seal 2")

    def test_behind_deeds(self):
        house = House(2, (("hand", 0), ("hand", 0)), (("box", 0),), (("box", 0), ("hand", 1)))
        broken = ("break", 0, 0)
        self.check(house, [], "hand 0: box 0 (seal 0) [thing 0], box 1", "hand 1: seal 1")
        self.check(house, [broken], "hand 0: box 0 [thing 0], box 1", "hand 1: seal 1")
        self.check(house, [broken, ("put", 0, ("box", 1), 0)], "hand 0: box 0 [box 1, thing 0]", "hand 1: seal 1")
        self.check(house, [broken, ("put", 0, ("box", 0), 1), ("give", 0, ("box", 1), 1), ("seal", 1, 1, 1)],
                   "hand 0:", "hand 1: box 1 (seal 1) [box 0 [thing 0]]")
        self.check(house, [broken, ("take", 0, ("thing", 0), 0), ("give", 0, ("box", 0), 1), ("give", 0, ("box", 1), 1),
                           ("give", 0, ("thing", 0), 1)], "hand 0:", "hand 1: box 0, box 1, seal 1, thing 0")

    def test_four_hands(self):
        house = House(4, (("hand", 3),), (("hand", 1),), (("hand", 1),))
        self.check(house, [], "hand 0:", "hand 1: seal 0, thing 0", "hand 2:", "hand 3: box 0")


if __name__ == "__main__":
    unittest.main()
