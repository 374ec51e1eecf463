"""Who has to have lied, and which told rows are left out (point 20)."""

import unittest

from calls import Calls
from sealwatch.errors import InvalidTeller, NoCourse
from sealwatch.houses import House
from sealwatch.logs import Log, impossible_row
from sealwatch.tellers import least_left_out, liars

# Hand 0 has a box with a thing, seal 0 is on it; hand 1 has thing 1.
HOUSE = House(3, (("hand", 0),), (("box", 0), ("hand", 1)), (("box", 0),))
THING = ("thing", 0)
GAP = ("gap", (0,))
TRUE = ("not", ("bare", 0))
BARE = ("bare", 0)
BREAK = ("break", 0, 0)


class Tellers(Calls):

    def check(self, rows, tellers, hands, indexes):
        log = Log(HOUSE, rows)
        self.returns(hands, liars, log, tellers)
        self.returns(indexes, least_left_out, log, tellers)
        kept = [row for index, row in enumerate(rows) if index not in indexes]
        self.assertIsNone(impossible_row(Log(HOUSE, kept)))

    def test_nobody_has_to_lie(self):
        self.check([], (), [()], [])
        self.check([TRUE, GAP, BARE], (0, None, 1), [()], [])
        self.check([GAP, BREAK, BARE], (None, 2, None), [()], [])
        self.check([TRUE, TRUE], (None, None), [()], [])

    def test_one_liar(self):
        self.check([BARE], (1,), [(1,)], [0])
        self.check([TRUE, BARE, TRUE], (0, 2, 1), [(2,)], [1])
        self.check([BARE, TRUE], (2, None), [(2,)], [0])

    def test_either_lies(self):
        """A broken seal is gone for ever: one of the two rows is wrong."""
        self.check([GAP, BARE, TRUE], (None, 0, 1), [(0,), (1,)], [1])
        self.check([GAP, BARE, TRUE], (None, 1, 0), [(0,), (1,)], [1])
        self.check([GAP, BARE, TRUE], (None, None, 0), [(0,)], [2])
        self.check([GAP, BARE, TRUE], (None, 1, 1), [(1,)], [1])

    def test_all_rows_of_a_liar_are_left_out(self):
        """Hand 0 told one wrong row and a deed: without the deed, hand 1 is wrong, too."""
        rows = [BREAK, BARE, ("at", ("thing", 1), ("hand", 2))]
        self.check(rows, (0, 1, 0), [(0, 1)], [2])

    def test_teams_of_unlike_sizes_ascend_as_tuples(self):
        """If hand 1 lies, the box is closed at the end; else hands 0 and 2 do."""
        rows = [GAP, TRUE, BARE, TRUE]
        self.check(rows, (None, None, 1, 0), [(1,)], [2])
        self.check([GAP, BARE, TRUE, TRUE], (None, 1, 0, 2), [(0, 2), (1,)], [1])

    def test_more_than_one_row_has_to_be_left_out(self):
        self.check([BARE, BARE, TRUE], (0, 0, 1), [(0,)], [0, 1])
        self.check([GAP, TRUE, BARE, TRUE, BARE, TRUE], (None, 0, 1, 0, 1, 0), [(0,), (1,)], [2, 4])
        self.check([GAP, BARE, TRUE, BARE, TRUE], (None, 0, 1, 0, 1), [(0,), (1,)], [1, 3])

    def test_fewest_come_before_first(self):
        self.check([GAP, TRUE, BARE, TRUE, TRUE], (None, 0, 1, 2, 0), [(0, 2), (1,)], [2])
        self.check([GAP, BARE, BARE, TRUE], (None, 0, 1, 2), [(0, 1), (2,)], [3])

    def test_first_of_several(self):
        at = [("at", ("thing", 1), ("hand", hand)) for hand in (0, 1, 2)]
        self.check([("gap", (0, 1, 2))] + at, (None, 0, 1, 2), [(0, 1), (0, 2), (1, 2)], [1, 2])

    def test_told_deeds(self):
        take = ("take", 0, THING, 0)
        self.check([take, BREAK, take], (1, 0, 2), [(1,)], [0])
        self.check([BREAK, BREAK], (0, 1), [(0,), (1,)], [0])
        self.check([GAP, BREAK, BREAK, ("gone", 0)], (None, 0, 1, None), [(0,), (1,)], [1])
        self.check([BREAK, take, ("at", THING, ("box", 0))], (0, 0, 1), [(0,), (1,)], [1])

    def test_more_liars_do_not_always_do(self):
        """Without both deeds the sights could not be, so hand 0 alone can lie, but not together with hand 1."""
        give = ("give", 1, ("thing", 1), 2)
        gone = ("not", ("at", ("thing", 1), ("hand", 1)))
        rows = [("gap", (1, 2)), ("at", ("thing", 1), ("hand", 1)), give, give, gone]
        self.check(rows, (None, 2, 0, 1, 2), [(0,), (1,)], [2])

    def test_a_row_alone_can_be_left_out_though_its_teller_told_more(self):
        rows = [GAP, BARE, ("at", THING, ("hand", 0)), TRUE]
        self.check(rows, (None, 0, 1, 0), [(0,)], [3])

    def test_no_course_by_the_sure_rows(self):
        for rows, tellers in (([BARE], (None,)), ([BARE, TRUE], (None, 0)), ([BREAK, BARE], (0, None)),
                              ([BREAK, ("gone", 0)], (1, None)), ([("gap", (1,)), TRUE, BARE], (None, 0, None))):
            self.raises(NoCourse, {}, liars, Log(HOUSE, rows), tellers)
            self.raises(NoCourse, {}, least_left_out, Log(HOUSE, rows), tellers)

    def test_invalid_tellers(self):
        rows = [BARE, GAP, TRUE]
        for tellers, index in (
            ((), 0), ((0,), 1), ((0, None), 2), ((0, None, 1, 1), 3), ((0, None, 1, None, 9), 3), ((3,), 0),
            ((0, 0, 1), 1), ((0, 0), 1), ((0, None, -1), 2), ((None, None, True), 2), ((0, 9, 9), 1), ((4, 0, 9, 9), 0),
            ((0, None, 3, 3), 2), ((0, None, 1, 3), 3), ((False, None, 0), 0),
        ):
            self.raises(InvalidTeller, {"index": index}, liars, Log(HOUSE, rows), tellers)
            self.raises(InvalidTeller, {"index": index}, least_left_out, Log(HOUSE, rows), tellers)
        self.raises(InvalidTeller, {"index": 0}, liars, Log(HOUSE, []), (None,))
        self.raises(InvalidTeller, {"index": 0}, least_left_out, Log(HOUSE, []), (0,))

    def test_invalid_tellers_come_before_no_course(self):
        self.raises(InvalidTeller, {"index": 1}, liars, Log(HOUSE, [BARE]), (None, None))
        self.raises(InvalidTeller, {"index": 0}, least_left_out, Log(HOUSE, [BARE, BARE]), (5, None))

    def test_thirty_rows(self):
        rows = [GAP] + [BARE, TRUE] * 14 + [BARE]
        tellers = (None,) + (0, 1) * 14 + (0,)
        self.check(rows, tellers, [(0,), (1,)], list(range(2, 30, 2)))


if __name__ == "__main__":
    unittest.main()
