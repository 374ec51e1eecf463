"""Logs, and whether they can have come about (points 8 to 10)."""

import unittest

from sealwatch.errors import InvalidHands, InvalidLog
from sealwatch.houses import House
from sealwatch.logs import Log, final_states, impossible_row

HOUSE = House(3, (("hand", 0), ("hand", 1)), (("box", 0), ("hand", 2)), (("box", 0), ("hand", 1)))
BARE = ("bare", 1)


class Rows(unittest.TestCase):

    def test_properties(self):
        rows = [("gap", (0, 1)), BARE, ("gap", ()), ("give", 1, ("box", 1), 0), ("not", ("gone", 0))]
        log = Log(HOUSE, rows)
        self.assertEqual(log.house, HOUSE)
        self.assertEqual(log.rows, tuple(rows))
        self.assertEqual(log.gaps, [0, 2])
        self.assertEqual(len(log), 5)
        self.assertEqual([log[index] for index in range(5)], rows)

    def test_no_rows(self):
        log = Log(HOUSE, [])
        self.assertEqual((log.rows, log.gaps, len(log)), ((), [], 0))

    def test_rows_as_list_or_tuple(self):
        self.assertTrue(Log(HOUSE, [BARE]) == Log(HOUSE, (BARE,)))

    def test_arguments_are_not_kept(self):
        rows = [BARE]
        log = Log(HOUSE, rows)
        rows.append(BARE)
        self.assertEqual(log.rows, (BARE,))

    def test_gaps_may_be_modified(self):
        log = Log(HOUSE, [("gap", (0,))])
        log.gaps.append(5)
        self.assertEqual(log.gaps, [0])

    def test_no_iteration(self):
        with self.assertRaises(TypeError):
            list(Log(HOUSE, [BARE]))
        with self.assertRaises(TypeError):
            for _ in Log(HOUSE, []):
                pass

    def test_thirty_rows(self):
        self.assertEqual(len(Log(HOUSE, [BARE] * 30)), 30)

    def check(self, index, rows):
        with self.assertRaises(InvalidLog) as caught:
            Log(HOUSE, rows)
        self.assertEqual(caught.exception.index, index)

    def test_thirty_first_row(self):
        self.check(30, [BARE] * 31)
        self.check(30, [BARE] * 40)
        self.check(30, [BARE] * 30 + [("bare", 9)])
        self.check(29, [BARE] * 29 + [("bare", 9)] * 2)
        self.check(30, [BARE] * 31 + [("bare", 9)])

    def test_wrong_rows(self):
        for row in (
            ("give", 3, ("thing", 0), 0), ("give", 0, ("thing", 2), 1), ("give", 0, ("thing", 0), 3),
            ("give", 0, ("thing", 0), 0), ("put", 0, ("seal", 0), 0), ("put", 0, ("thing", 0), 2),
            ("put", 0, ("box", 0), 0), ("take", 0, ("seal", 0), 0), ("take", 0, ("box", 1), 1),
            ("seal", 0, 2, 0), ("seal", 0, 0, 2), ("seal", 3, 0, 0), ("break", 0, 2), ("break", -1, 0),
            ("at", ("thing", 2), ("hand", 0)), ("at", ("thing", 0), ("hand", 3)), ("at", ("thing", 0), ("box", 2)),
            ("bare", 2), ("in", 2, ()), ("in", 0, (("seal", 0),)), ("in", 0, (("thing", 1), ("thing", 0))),
            ("in", 0, (("thing", 0), ("thing", 0))), ("gone", 2), ("not", ("bare", 2)), ("not", ("gone", -1)),
            ("gap", (3,)), ("gap", (-1,)), ("gap", (1, 0)), ("gap", (1, 1)), ("gap", (0, 1, 2, 3)),
        ):
            self.check(0, [row])
            self.check(1, [BARE, row, row])

    def test_possible_by_themselves(self):
        rows = [("break", 0, 1), ("give", 2, ("box", 0), 1), ("in", 0, (("box", 0),)),
                ("at", ("box", 0), ("box", 0)), ("gap", ()), ("gap", (0, 1, 2))]
        self.assertEqual(Log(HOUSE, rows).rows, tuple(rows))


class Parts(unittest.TestCase):

    def test_add(self):
        log = Log(HOUSE, [BARE])
        more = log + [("gap", (1,))] + (("gone", 0),)
        self.assertEqual(more.rows, (BARE, ("gap", (1,)), ("gone", 0)))
        self.assertEqual(log.rows, (BARE,))
        self.assertTrue(log + [] == log)

    def test_add_counts_in_the_whole_log(self):
        for many, rows, index in ((2, [("bare", 2)], 2), (2, [BARE, ("gap", (7,))], 3), (29, [BARE, BARE], 30),
                                  (30, [BARE], 30), (30, [("bare", 2)], 30)):
            with self.assertRaises(InvalidLog) as caught:
                Log(HOUSE, [BARE] * many) + rows
            self.assertEqual(caught.exception.index, index)

    def test_until(self):
        log = Log(HOUSE, [BARE, ("gap", ()), ("gone", 0)])
        for number, many in ((0, 0), (1, 1), (2, 2), (3, 3), (4, 3), (99, 3), (-1, 0), (-2, 0), (-99, 0)):
            self.assertEqual(log.until(number).rows, log.rows[:many])
            self.assertEqual(log.until(number).house, HOUSE)

    def test_watched(self):
        log = Log(HOUSE, [("gap", (0, 1, 2)), BARE, ("gap", (1,)), ("gap", ())])
        self.assertEqual(log.watched((0, 2)).rows, (("gap", (0, 2)), BARE, ("gap", ()), ("gap", ())))
        self.assertEqual(log.watched(()).gaps, [0, 2, 3])
        self.assertTrue(log.watched((0, 1, 2)) == log)
        self.assertEqual(log.rows[0], ("gap", (0, 1, 2)))

    def test_invalid_hands(self):
        log = Log(HOUSE, [])
        for index, hands in ((0, (3,)), (0, (-1, 9)), (1, (0, 0)), (1, (2, 1)), (2, (0, 1, 3)), (1, (0, 9, 0))):
            with self.assertRaises(InvalidHands) as caught:
                log.watched(hands)
            self.assertEqual(caught.exception.index, index)

    def test_equality(self):
        log = Log(HOUSE, [BARE])
        self.assertTrue(log == Log(HOUSE, [BARE]))
        self.assertFalse(log != Log(HOUSE, [BARE]))
        self.assertFalse(log == Log(HOUSE, [BARE, BARE]))
        self.assertFalse(log == Log(House(4, HOUSE.boxes, HOUSE.things, HOUSE.seals), [BARE]))
        self.assertFalse(log == (BARE,))


class Possible(unittest.TestCase):
    """Points 9 and 10."""

    def check(self, index, rows, house=HOUSE):
        log = Log(house, rows)
        self.assertEqual(impossible_row(log), index)
        self.assertEqual(final_states(log) == [], index is not None)
        for number in range(len(rows) + 1):
            fits = index is None or number <= index
            self.assertEqual(impossible_row(log.until(number)), None if fits else index)

    def test_no_rows(self):
        self.check(None, [])
        self.assertEqual(final_states(Log(HOUSE, [])), [HOUSE.state])

    def test_no_gaps(self):
        self.check(None, [BARE, ("break", 0, 0), ("take", 0, ("thing", 0), 0), ("at", ("thing", 0), ("hand", 0))])
        self.check(1, [BARE, ("take", 0, ("thing", 0), 0), BARE])
        self.check(0, [("gone", 0), BARE])
        self.check(0, [("break", 1, 1)])
        self.check(0, [("give", 0, ("box", 1), 1)])

    def test_told_deeds_change_the_state(self):
        rows = [("give", 0, ("box", 0), 1), ("put", 1, ("box", 0), 1), ("seal", 1, 1, 1), ("break", 1, 1)]
        states = final_states(Log(HOUSE, rows))
        self.assertEqual(states, [((("box", 1), ("hand", 1)), HOUSE.things, (("box", 0), ("gone", 0)))])

    def test_a_gap_of_no_hands(self):
        self.check(None, [("gap", ())])
        self.check(1, [("gap", ()), ("gone", 0)])
        self.assertEqual(final_states(Log(HOUSE, [("gap", ()), ("gap", ())])), [HOUSE.state])

    def test_a_gap_of_one_hand(self):
        self.check(None, [("gap", (0,)), ("gone", 0)])
        self.check(None, [("gap", (0,)), ("at", ("thing", 0), ("hand", 0))])
        self.check(1, [("gap", (0,)), ("at", ("thing", 0), ("hand", 1))])
        self.check(1, [("gap", (0,)), ("at", ("thing", 1), ("box", 0))])
        self.check(None, [("gap", (1,)), ("not", ("bare", 1))])
        self.check(1, [("gap", (1,)), ("gone", 0)])

    def test_gives_only_among_the_hands_of_a_gap(self):
        self.check(1, [("gap", (0, 1)), ("at", ("box", 0), ("hand", 2))])
        self.check(None, [("gap", (0, 1)), ("at", ("box", 0), ("hand", 1))])
        self.check(2, [("gap", (0,)), ("gap", (1,)), ("at", ("box", 0), ("hand", 1))])
        self.check(None, [("gap", (0, 1)), ("gap", (1, 2)), ("at", ("box", 0), ("hand", 2))])
        self.check(2, [("gap", (1, 2)), ("gap", (0, 1)), ("at", ("box", 0), ("hand", 2))])

    def test_told_deeds_are_bound_to_no_gap(self):
        self.check(None, [("gap", (0,)), ("give", 1, ("seal", 1), 2), ("gap", ()), ("give", 2, ("thing", 1), 0)])

    def test_broken_seals(self):
        self.check(2, [("gap", (0, 1)), ("gone", 0), ("at", ("seal", 0), ("box", 1)), ("gap", (0, 1))])
        self.check(3, [("gap", (0, 1)), ("gone", 0), ("gap", (0, 1)), ("not", ("gone", 0))])
        self.check(None, [("gap", (0, 1)), ("gone", 0), ("gap", (0, 1)), ("at", ("seal", 1), ("box", 0))])
        self.check(3, [("gap", (0,)), ("not", ("gone", 0)), ("gap", ()), ("at", ("thing", 0), ("hand", 0))])

    def test_a_box_in_itself_is_never_seen(self):
        self.check(1, [("gap", (0, 1, 2)), ("at", ("box", 0), ("box", 0))])
        self.check(1, [("gap", (0, 1, 2)), ("in", 0, (("box", 0),))])
        self.check(None, [("gap", (0, 1, 2)), ("not", ("at", ("box", 0), ("box", 0)))])
        self.check(None, [("gap", (0, 1, 2)), ("not", ("in", 0, (("box", 0),)))])

    def test_not_in(self):
        house = House(1, (("hand", 0),), (("hand", 0), ("hand", 0)), ())
        log = Log(house, [("gap", (0,)), ("not", ("in", 0, (("thing", 0),)))])
        places = [state[1] for state in final_states(log)]
        box, hand = ("box", 0), ("hand", 0)
        self.assertEqual(places, [(box, box), (hand, box), (hand, hand)])

    def test_things_that_cannot_both_be(self):
        """Either seal 0 was on box 0 or on box 1, so that only one of them took a thing."""
        house = House(2, (("hand", 0), ("hand", 0)), (("hand", 1), ("hand", 1)), (("hand", 0),))
        rows = [("not", ("gone", 0)), ("gap", (0,)), ("give", 0, ("box", 0), 1), ("give", 0, ("box", 1), 1),
                ("not", ("gone", 0)), ("not", ("at", ("seal", 0), ("hand", 0))), ("gap", (1,)), ("not", ("gone", 0))]
        log = Log(house, rows)
        for thing in (("thing", 0), ("thing", 1)):
            for box in (("box", 0), ("box", 1)):
                self.assertIsNone(impossible_row(log + [("at", thing, box)]))
        both = [("at", ("thing", 0), ("box", 0)), ("at", ("thing", 1), ("box", 1))]
        self.assertEqual(impossible_row(log + both), len(rows) + 1)

    def test_final_states_ascend(self):
        states = final_states(Log(HOUSE, [("gap", (0, 1, 2))]))
        self.assertEqual(states, sorted(states))
        self.assertEqual(len(states), len(set(states)))
        states.clear()
        self.assertNotEqual(final_states(Log(HOUSE, [("gap", (0, 1, 2))])), [])


if __name__ == "__main__":
    unittest.main()
