"""Houses (points 2 and 3)."""

import unittest

from sealwatch.errors import InvalidHouse
from sealwatch.houses import House

HAND = ("hand", 0)


class Valid(unittest.TestCase):

    def test_least(self):
        house = House(1, (HAND,), (), ())
        self.assertEqual(house.state, ((HAND,), (), ()))
        self.assertEqual(house.all_items, [("box", 0)])

    def test_greatest(self):
        house = House(4, (("hand", 3), ("box", 0), ("box", 1)), (("box", 2),) * 4, (("box", 2), ("box", 0), ("hand", 3)))
        self.assertEqual(house.hands, 4)
        self.assertEqual(house.boxes, (("hand", 3), ("box", 0), ("box", 1)))
        self.assertEqual(house.things, (("box", 2),) * 4)
        self.assertEqual(house.seals, (("box", 2), ("box", 0), ("hand", 3)))
        self.assertEqual(house.state, (house.boxes, house.things, house.seals))

    def test_several_seals_with_a_hand(self):
        self.assertEqual(House(1, (HAND,), (), (HAND, HAND, HAND)).seals, (HAND, HAND, HAND))

    def test_all_items_ascend(self):
        house = House(2, (HAND, HAND), (HAND, HAND, HAND), (HAND, ("hand", 1)))
        items = [("box", 0), ("box", 1), ("seal", 0), ("seal", 1), ("thing", 0), ("thing", 1), ("thing", 2)]
        self.assertEqual(house.all_items, items)
        self.assertEqual(sorted(house.all_items), items)

    def test_all_items_may_be_modified(self):
        house = House(1, (HAND,), (), ())
        house.all_items.append(("thing", 0))
        self.assertEqual(house.all_items, [("box", 0)])

    def test_contains(self):
        house = House(2, (HAND, HAND), (HAND,), (HAND, HAND, HAND))
        for item in house.all_items:
            self.assertTrue(item in house)
        for item in (("box", 2), ("thing", 1), ("seal", 3), ("box", -1), ("hand", 0), ("gone", 0), ("lid", 0), ("", 0)):
            self.assertFalse(item in house)
        self.assertIs(("box", 0) in house, True)

    def test_equality(self):
        house = House(2, (HAND,), (HAND,), (HAND,))
        self.assertTrue(house == House(2, (HAND,), (HAND,), (HAND,)))
        self.assertFalse(house != House(2, (HAND,), (HAND,), (HAND,)))
        for other in (House(3, (HAND,), (HAND,), (HAND,)), House(2, (HAND, HAND), (HAND,), (HAND,)),
                      House(2, (("hand", 1),), (HAND,), (HAND,)), House(2, (HAND,), (("box", 0),), (HAND,)),
                      House(2, (HAND,), (HAND,), (("box", 0),)), House(2, (HAND,), (HAND,), ())):
            self.assertFalse(house == other)
            self.assertTrue(house != other)
        self.assertFalse(house == (2, (HAND,), (HAND,), (HAND,)))

    def test_things_are_not_seals(self):
        self.assertFalse(House(1, (HAND,), (HAND,), ()) == House(1, (HAND,), (), (HAND,)))


class Invalid(unittest.TestCase):

    def check(self, part, index, *parameters):
        with self.assertRaises(InvalidHouse) as caught:
            House(*parameters)
        self.assertEqual((caught.exception.part, caught.exception.index), (part, index))

    def test_hands(self):
        for hands in (0, -1, 5, 100):
            self.check("hands", 0, hands, (HAND,), (), ())

    def test_no_boxes(self):
        self.check("boxes", 0, 1, (), (), ())

    def test_one_too_many(self):
        self.check("boxes", 3, 1, (HAND,) * 4, (), ())
        self.check("things", 4, 1, (HAND,), (HAND,) * 5, ())
        self.check("seals", 3, 1, (HAND,), (), (HAND,) * 4)

    def test_wrong_before_too_many(self):
        self.check("boxes", 1, 1, (HAND, ("hand", 1), HAND, HAND), (), ())
        self.check("things", 3, 1, (HAND,), (HAND,) * 3 + (("box", 1),) * 3, ())
        self.check("seals", 2, 1, (HAND,), (), (HAND, ("box", 0), ("box", 0), HAND, HAND))

    def test_too_many_before_wrong(self):
        self.check("boxes", 3, 1, (HAND, HAND, HAND, HAND, ("hand", 9)), (), ())
        self.check("things", 4, 1, (HAND,), (HAND,) * 5 + (("hand", 7),), ())

    def test_parts_in_order(self):
        wrong = ("hand", 4)
        self.check("hands", 0, 0, (wrong,), (wrong,), (wrong,))
        self.check("boxes", 0, 4, (wrong,), (wrong,), (wrong,))
        self.check("things", 0, 4, (HAND,), (wrong,), (wrong,))
        self.check("seals", 0, 4, (HAND,), (HAND,), (wrong,))

    def test_boxes_in_lesser_boxes(self):
        self.check("boxes", 0, 2, (("box", 0),), (), ())
        self.check("boxes", 0, 2, (("box", 1), HAND), (), ())
        self.check("boxes", 1, 2, (HAND, ("box", 2), HAND), (), ())
        self.check("boxes", 2, 2, (HAND, ("box", 0), ("box", 2)), (), ())

    def test_places_that_do_not_exist(self):
        for place in (("hand", 2), ("hand", -1), ("box", 1), ("box", -1), ("gone", 0), ("seal", 0), ("thing", 0)):
            self.check("boxes", 0, 2, (place,), (), ())
            self.check("things", 1, 2, (HAND,), (HAND, place), ())
            self.check("seals", 1, 2, (HAND,), (), (HAND, place))

    def test_two_seals_on_a_box(self):
        self.check("seals", 2, 1, (HAND, HAND), (), (("box", 1), HAND, ("box", 1)))


if __name__ == "__main__":
    unittest.main()
