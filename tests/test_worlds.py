"""Deeds, worlds and sights (points 4 to 7)."""

import unittest

from sealwatch.errors import (
    InsideItself, IsSealed, NotHeld, NotInside, NotSealed, UnknownBox, UnknownHand, UnknownItem, UnknownSeal,
)
from sealwatch.houses import House
from sealwatch.worlds import World

# Box 1 is in box 0, which hand 0 holds; box 2 is with hand 1, sealed with seal 0 and with thing 1 in it.
HOUSE = House(
    3,
    (("hand", 0), ("box", 0), ("hand", 1)),
    (("box", 1), ("box", 2), ("hand", 0), ("hand", 1)),
    (("box", 2), ("hand", 0), ("hand", 1)),
)
WORLD = World(HOUSE)


class Deeds(unittest.TestCase):

    def check(self, deed, item, place):
        """A deed changes the place of this item alone, and the world in which it is done stays."""
        world = WORLD(deed)
        self.assertEqual(world.where(item), place)
        for other in HOUSE.all_items:
            if other != item:
                self.assertEqual(world.where(other), WORLD.where(other))
        self.assertEqual(WORLD.state, HOUSE.state)

    def test_give(self):
        self.check(("give", 0, ("thing", 2), 1), ("thing", 2), ("hand", 1))
        self.check(("give", 0, ("box", 0), 2), ("box", 0), ("hand", 2))
        self.check(("give", 1, ("box", 2), 0), ("box", 2), ("hand", 0))
        self.check(("give", 1, ("seal", 2), 2), ("seal", 2), ("hand", 2))

    def test_put(self):
        self.check(("put", 0, ("thing", 2), 0), ("thing", 2), ("box", 0))
        world = WORLD(("give", 1, ("box", 2), 0))(("put", 0, ("box", 2), 0))
        self.assertEqual(world.inside(0), [("box", 1), ("box", 2)])
        self.assertEqual(world.seal(2), 0)

    def test_take(self):
        self.check(("take", 0, ("box", 1), 0), ("box", 1), ("hand", 0))
        world = WORLD(("take", 0, ("box", 1), 0))(("take", 0, ("thing", 0), 1))
        self.assertEqual(world.where(("thing", 0)), ("hand", 0))

    def test_seal(self):
        self.check(("seal", 0, 0, 1), ("seal", 1), ("box", 0))

    def test_break(self):
        self.check(("break", 1, 2), ("seal", 0), ("gone", 0))

    def test_broken_for_ever(self):
        world = WORLD(("break", 1, 2))
        with self.assertRaises(NotHeld):
            world(("seal", 1, 2, 0))
        with self.assertRaises(NotHeld):
            world(("give", 1, ("seal", 0), 0))
        self.assertEqual(world(("seal", 1, 2, 2)).seal(2), 2)

    def test_contents_go_along(self):
        world = WORLD(("give", 0, ("box", 0), 2))
        self.assertEqual(world.where(("thing", 0)), ("box", 1))
        self.assertEqual([world.holder(item) for item in (("box", 0), ("box", 1), ("thing", 0))], [2, 2, 2])

    def test_house_of_one_hand_without_things_and_seals(self):
        house = House(1, (("hand", 0), ("box", 0)), (), ())
        world = World(house)(("take", 0, ("box", 1), 0))(("put", 0, ("box", 0), 1))
        self.assertEqual(world.state, ((("box", 1), ("hand", 0)), (), ()))


class DeedErrors(unittest.TestCase):

    def check(self, error, deed, world=WORLD):
        with self.assertRaises(error) as caught:
            world(deed)
        self.assertIs(type(caught.exception), error, deed)
        self.assertEqual(WORLD.state, HOUSE.state)

    def test_unknown_hand(self):
        for hand in (3, -1):
            self.check(UnknownHand, ("give", hand, ("thing", 9), 9))
            self.check(UnknownHand, ("put", hand, ("thing", 9), 9))
            self.check(UnknownHand, ("take", hand, ("thing", 9), 9))
            self.check(UnknownHand, ("seal", hand, 9, 9))
            self.check(UnknownHand, ("break", hand, 9))

    def test_unknown_item(self):
        for item in (("thing", 4), ("box", 3), ("seal", 3), ("hand", 0), ("box", -1)):
            self.check(UnknownItem, ("give", 0, item, 0))
            self.check(UnknownItem, ("give", 0, item, 9))
            self.check(UnknownItem, ("put", 0, item, 9))
            self.check(UnknownItem, ("take", 0, item, 9))

    def test_seals_are_not_put_or_taken(self):
        self.check(UnknownItem, ("put", 0, ("seal", 1), 0))
        self.check(UnknownItem, ("put", 0, ("seal", 1), 9))
        self.check(UnknownItem, ("take", 1, ("seal", 0), 2))
        self.check(UnknownItem, ("take", 1, ("seal", 0), 9))

    def test_unknown_other_hand(self):
        self.check(UnknownHand, ("give", 0, ("thing", 2), 3))
        self.check(UnknownHand, ("give", 0, ("thing", 2), -1))

    def test_give_to_itself(self):
        self.check(UnknownHand, ("give", 0, ("thing", 2), 0))
        self.check(UnknownHand, ("give", 0, ("thing", 3), 0))

    def test_unknown_box(self):
        for box in (3, -1):
            self.check(UnknownBox, ("put", 0, ("thing", 3), box))
            self.check(UnknownBox, ("take", 0, ("thing", 3), box))
            self.check(UnknownBox, ("seal", 0, box, 9))
            self.check(UnknownBox, ("break", 0, box))

    def test_unknown_seal(self):
        self.check(UnknownSeal, ("seal", 2, 0, 3))
        self.check(UnknownSeal, ("seal", 0, 0, -1))

    def test_inside_itself(self):
        self.check(InsideItself, ("put", 0, ("box", 0), 0))
        self.check(InsideItself, ("put", 2, ("box", 0), 0))
        self.check(InsideItself, ("take", 1, ("box", 2), 2))
        self.check(InsideItself, ("take", 0, ("box", 2), 2))

    def test_not_held(self):
        self.check(NotHeld, ("give", 0, ("thing", 3), 1))
        self.check(NotHeld, ("give", 0, ("box", 1), 1))
        self.check(NotHeld, ("give", 1, ("seal", 0), 0))
        self.check(NotHeld, ("put", 0, ("thing", 3), 0))
        self.check(NotHeld, ("put", 0, ("thing", 2), 1))
        self.check(NotHeld, ("take", 1, ("box", 1), 0))
        self.check(NotHeld, ("take", 0, ("thing", 0), 1))
        self.check(NotHeld, ("seal", 0, 1, 1))
        self.check(NotHeld, ("seal", 0, 0, 2))
        self.check(NotHeld, ("seal", 0, 0, 0))
        self.check(NotHeld, ("break", 0, 2))
        self.check(NotHeld, ("break", 0, 1))

    def test_not_held_before_seals(self):
        self.check(NotHeld, ("put", 0, ("thing", 2), 2))
        self.check(NotHeld, ("put", 1, ("thing", 2), 2))
        self.check(NotHeld, ("take", 0, ("thing", 2), 2))
        self.check(NotHeld, ("seal", 1, 2, 1))
        self.check(NotHeld, ("seal", 1, 2, 0))
        self.check(NotHeld, ("break", 1, 0))

    def test_sealed(self):
        self.check(IsSealed, ("put", 1, ("thing", 3), 2))
        self.check(IsSealed, ("take", 1, ("thing", 1), 2))
        self.check(IsSealed, ("take", 1, ("thing", 0), 2))
        self.check(IsSealed, ("seal", 1, 2, 2))

    def test_not_sealed(self):
        self.check(NotSealed, ("break", 0, 0))
        self.check(NotSealed, ("break", 1, 2), WORLD(("break", 1, 2)))

    def test_not_inside(self):
        self.check(NotInside, ("take", 0, ("thing", 2), 0))
        self.check(NotInside, ("take", 0, ("thing", 0), 0))
        self.check(NotInside, ("take", 0, ("box", 2), 0))


class Worlds(unittest.TestCase):

    def test_properties(self):
        self.assertEqual(WORLD.house, HOUSE)
        self.assertEqual(WORLD.state, HOUSE.state)

    def test_where(self):
        self.assertEqual(WORLD.where(("box", 1)), ("box", 0))
        self.assertEqual(WORLD.where(("thing", 3)), ("hand", 1))
        self.assertEqual(WORLD.where(("seal", 0)), ("box", 2))
        self.assertEqual(WORLD(("break", 1, 2)).where(("seal", 0)), ("gone", 0))

    def test_holder(self):
        self.assertEqual([WORLD.holder(("box", number)) for number in range(3)], [0, 0, 1])
        self.assertEqual([WORLD.holder(("thing", number)) for number in range(4)], [0, 1, 0, 1])
        self.assertEqual([WORLD.holder(("seal", number)) for number in range(3)], [1, 0, 1])
        self.assertIsNone(WORLD(("break", 1, 2)).holder(("seal", 0)))

    def test_holder_of_a_seal_on_a_box_in_a_box(self):
        world = WORLD(("give", 1, ("box", 2), 0))(("put", 0, ("box", 2), 0))(("give", 0, ("box", 0), 2))
        self.assertEqual(world.holder(("seal", 0)), 2)

    def test_inside(self):
        self.assertEqual([WORLD.inside(box) for box in range(3)], [[("box", 1)], [("thing", 0)], [("thing", 1)]])
        world = WORLD(("put", 0, ("thing", 2), 0))
        self.assertEqual(world.inside(0), [("box", 1), ("thing", 2)])

    def test_seal(self):
        self.assertEqual([WORLD.seal(box) for box in range(3)], [None, None, 0])

    def test_held(self):
        self.assertEqual(WORLD.held(0), [("box", 0), ("seal", 1), ("thing", 2)])
        self.assertEqual(WORLD.held(1), [("box", 2), ("seal", 2), ("thing", 3)])
        self.assertEqual(WORLD.held(2), [])

    def test_lists_may_be_modified(self):
        WORLD.held(0).clear()
        WORLD.inside(0).clear()
        self.assertEqual([len(WORLD.held(0)), len(WORLD.inside(0))], [3, 1])

    def test_changed(self):
        state = WORLD(("break", 1, 2)).state
        world = WORLD.changed(state)
        self.assertEqual(world.state, state)
        self.assertEqual(world.house, HOUSE)
        self.assertEqual(WORLD.state, HOUSE.state)

    def test_equality(self):
        self.assertTrue(WORLD == World(HOUSE))
        self.assertTrue(WORLD(("break", 1, 2)) == WORLD.changed(WORLD(("break", 1, 2)).state))
        self.assertFalse(WORLD == WORLD(("break", 1, 2)))
        self.assertTrue(WORLD != WORLD(("break", 1, 2)))
        self.assertFalse(WORLD == HOUSE)
        more = House(4, HOUSE.boxes, HOUSE.things, HOUSE.seals)
        self.assertFalse(WORLD == World(more))

    def test_errors(self):
        for item in (("box", 3), ("thing", 4), ("seal", 3), ("seal", -1), ("hand", 0)):
            self.assertRaises(UnknownItem, WORLD.where, item)
            self.assertRaises(UnknownItem, WORLD.holder, item)
        for number in (3, -1):
            self.assertRaises(UnknownBox, WORLD.inside, number)
            self.assertRaises(UnknownBox, WORLD.seal, number)
            self.assertRaises(UnknownHand, WORLD.held, number)


class Sights(unittest.TestCase):

    def check(self, sight, truth, world=WORLD):
        self.assertIs(world.is_so(sight), truth)
        if sight[0] != "not":
            self.assertIs(world.is_so(("not", sight)), not truth)

    def test_at(self):
        self.check(("at", ("box", 1), ("box", 0)), True)
        self.check(("at", ("thing", 0), ("box", 0)), False)
        self.check(("at", ("thing", 0), ("hand", 0)), False)
        self.check(("at", ("seal", 0), ("box", 2)), True)
        self.check(("at", ("seal", 1), ("hand", 0)), True)
        self.check(("at", ("box", 0), ("box", 0)), False)

    def test_at_of_a_broken_seal(self):
        world = WORLD(("break", 1, 2))
        for place in (("hand", 0), ("hand", 1), ("hand", 2), ("box", 0), ("box", 1), ("box", 2)):
            self.check(("at", ("seal", 0), place), False, world)

    def test_bare(self):
        self.check(("bare", 0), True)
        self.check(("bare", 2), False)
        self.check(("bare", 2), True, WORLD(("break", 1, 2)))

    def test_in(self):
        self.check(("in", 0, (("box", 1),)), True)
        self.check(("in", 0, ()), False)
        self.check(("in", 0, (("box", 1), ("thing", 0))), False)
        self.check(("in", 0, (("thing", 0),)), False)
        self.check(("in", 2, (("thing", 1),)), True)
        self.check(("in", 0, (("box", 0), ("box", 1))), False)
        self.check(("in", 0, ()), True, WORLD(("take", 0, ("box", 1), 0)))
        self.check(("in", 0, (("box", 1), ("thing", 2))), True, WORLD(("put", 0, ("thing", 2), 0)))

    def test_gone(self):
        self.check(("gone", 0), False)
        self.check(("gone", 1), False)
        self.check(("gone", 0), True, WORLD(("break", 1, 2)))

    def test_errors_from_left_to_right(self):
        for error, sight in (
            (UnknownItem, ("at", ("thing", 4), ("hand", 9))),
            (UnknownItem, ("at", ("hand", 0), ("hand", 0))),
            (UnknownHand, ("at", ("thing", 0), ("hand", 3))),
            (UnknownHand, ("at", ("thing", 0), ("hand", -1))),
            (UnknownBox, ("at", ("thing", 0), ("box", 3))),
            (UnknownBox, ("bare", 3)),
            (UnknownBox, ("in", 3, (("thing", 9),))),
            (UnknownItem, ("in", 0, (("box", 0), ("thing", 4)))),
            (UnknownItem, ("in", 0, (("seal", 0),))),
            (UnknownItem, ("in", 0, (("thing", 1), ("thing", 0)))),
            (UnknownItem, ("in", 0, (("thing", 1), ("thing", 1)))),
            (UnknownItem, ("in", 0, (("thing", 0), ("box", 1)))),
            (UnknownSeal, ("gone", 3)),
            (UnknownSeal, ("gone", -1)),
        ):
            for told in (sight, ("not", sight)):
                with self.assertRaises(error) as caught:
                    WORLD.is_so(told)
                self.assertIs(type(caught.exception), error)


if __name__ == "__main__":
    unittest.main()
