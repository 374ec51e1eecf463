"""Checks, their findings, and which of them to make (points 17 and 18)."""

import unittest

from calls import Calls
from sealwatch.checks import fewest_checks, finding, findings, next_check, sight_of
from sealwatch.errors import InvalidCheck, NoCourse, UnknownBox, UnknownHand, UnknownItem, UnknownSeal
from sealwatch.houses import House
from sealwatch.logs import Log, final_states
from sealwatch.worlds import World

# Hand 0 has a box with a thing and box 1, seal 0 is on box 0; hand 1 has thing 1 and seal 1.
HOUSE = House(2, (("hand", 0), ("box", 0)), (("box", 0), ("hand", 1)), (("box", 0), ("hand", 1)))
THING = ("thing", 0)
NEVER = Log(HOUSE, [("gone", 0)])
# One hand, which can have broken the seal of its box and taken the thing.
ONE = House(1, (("hand", 0),), (("box", 0),), (("box", 0),))
OPEN = Log(ONE, [("gap", (0,))])
WRONG = (("where", ("box", 2)), ("where", ("thing", 2)), ("where", ("seal", 2)), ("where", ("hand", 0)), ("on", 2),
         ("on", -1), ("on", True), ("inside", 2), ("inside", -1))


class Finding(Calls):

    def test_where(self):
        for item, place in ((("box", 1), ("box", 0)), (("thing", 1), ("hand", 1)), (("seal", 0), ("box", 0)),
                            (("seal", 1), ("hand", 1))):
            self.returns(place, finding, World(HOUSE), ("where", item))
        self.returns(("gone", 0), finding, World(HOUSE)(("break", 0, 0)), ("where", ("seal", 0)))

    def test_on(self):
        self.returns(0, finding, World(HOUSE), ("on", 0))
        self.returns(None, finding, World(HOUSE), ("on", 1))
        self.returns(None, finding, World(HOUSE)(("break", 0, 0)), ("on", 0))
        other = House(1, (("hand", 0),), (), (("hand", 0), ("box", 0)))
        self.returns(1, finding, World(other), ("on", 0))

    def test_inside(self):
        self.returns((("box", 1), THING), finding, World(HOUSE), ("inside", 0))
        self.returns((), finding, World(HOUSE), ("inside", 1))

    def test_errors(self):
        for check in WRONG:
            self.raises(InvalidCheck, {"index": 0}, finding, World(HOUSE), check)


class Sights(Calls):

    def test_places(self):
        self.returns(("at", THING, ("hand", 1)), sight_of, ("where", THING), ("hand", 1))
        self.returns(("at", ("seal", 1), ("box", 0)), sight_of, ("where", ("seal", 1)), ("box", 0))
        self.returns(("gone", 1), sight_of, ("where", ("seal", 1)), ("gone", 0))

    def test_seals(self):
        self.returns(("bare", 1), sight_of, ("on", 1), None)
        self.returns(("at", ("seal", 0), ("box", 1)), sight_of, ("on", 1), 0)
        self.returns(("at", ("seal", 2), ("box", 0)), sight_of, ("on", 0), 2)

    def test_contents(self):
        self.returns(("in", 1, ()), sight_of, ("inside", 1), ())
        self.returns(("in", 0, (("box", 1), THING)), sight_of, ("inside", 0), (("box", 1), THING))

    def test_nothing_is_raised(self):
        self.returns(("at", ("thing", 9), ("hand", 9)), sight_of, ("where", ("thing", 9)), ("hand", 9))
        self.returns(("bare", 9), sight_of, ("on", 9), None)

    def test_true_of_just_the_states_with_the_finding(self):
        worlds = [World(HOUSE).changed(state) for state in final_states(Log(HOUSE, [("gap", (0,))]))]
        for check in [("on", 0), ("inside", 0), ("inside", 1)] + [("where", item) for item in HOUSE.all_items]:
            for world in worlds[::3]:
                sight = sight_of(check, finding(world, check))
                for other in worlds:
                    self.assertEqual(other.is_so(sight), finding(other, check) == finding(world, check))


class Findings(Calls):

    def test_without_gaps(self):
        log = Log(HOUSE, [])
        self.returns([(0, 1)], findings, log, ("on", 0))
        self.returns([(("hand", 1), 1)], findings, log, ("where", ("thing", 1)))
        self.returns([((("box", 1), THING), 1)], findings, log, ("inside", 0))

    def test_counts(self):
        self.returns([(("box", 0), 1), (("gone", 0), 2)], findings, OPEN, ("where", ("seal", 0)))
        self.returns([((THING,), 2), ((), 1)], findings, OPEN, ("inside", 0))
        self.returns([(("hand", 0), 3)], findings, OPEN, ("where", ("box", 0)))

    def test_order_of_the_first_states(self):
        """The state with the thing in the box comes first, whatever the finding is."""
        house = House(2, (("hand", 0),), (("hand", 0),), ())
        self.returns([((THING,), 2), ((), 4)], findings, Log(house, [("gap", (0, 1))]), ("inside", 0))
        house = House(1, (("hand", 0), ("hand", 0)), (), (("hand", 0),))
        log = Log(house, [("gap", (0,))])
        self.returns([(0, 3), (None, 9)], findings, log, ("on", 0))
        self.returns([(None, 9), (0, 3)], findings, log, ("on", 1))
        log = log + [("bare", 0), ("bare", 1), ("at", ("box", 1), ("hand", 0))]
        self.returns([(("gone", 0), 2), (("hand", 0), 2)], findings, log, ("where", ("seal", 0)))

    def test_told_by_all_states(self):
        log = Log(HOUSE, [("gap", (0,)), ("gap", (0, 1))])
        states = final_states(log)
        for check in [("on", 0), ("on", 1), ("inside", 1)] + [("where", item) for item in HOUSE.all_items]:
            counts = {}
            for state in states:
                what = finding(World(HOUSE).changed(state), check)
                counts[what] = counts.get(what, 0) + 1
            self.returns(list(counts.items()), findings, log, check)

    def test_errors(self):
        for check in WRONG:
            self.raises(InvalidCheck, {"index": 0}, findings, Log(HOUSE, []), check)
            self.raises(InvalidCheck, {"index": 0}, findings, NEVER, check)
        self.raises(NoCourse, {}, findings, NEVER, ("on", 0))


class Many(Calls):
    """Lists of checks."""

    def check_errors(self, function, *more):
        for check in WRONG:
            self.raises(InvalidCheck, {"index": 0}, function, Log(HOUSE, []), [check], *more)
            self.raises(InvalidCheck, {"index": 1}, function, NEVER, [("on", 0), check, check], *more)
            self.raises(InvalidCheck, {"index": 7}, function, NEVER, [("on", 0)] * 7 + [check, ("on", 0)], *more)
            self.raises(InvalidCheck, {"index": 8}, function, NEVER, [("on", 0)] * 8 + [check], *more)
        self.raises(InvalidCheck, {"index": 8}, function, Log(HOUSE, []), [("on", 0)] * 9, *more)
        self.raises(InvalidCheck, {"index": 8}, function, NEVER, [("on", 0)] * 20, *more)
        self.raises(NoCourse, {}, function, NEVER, [("on", 0)], *more)
        self.raises(NoCourse, {}, function, NEVER, [], *more)


class Next(Many):

    def test_without_checks(self):
        self.returns(None, next_check, OPEN, [])
        self.returns(None, next_check, Log(HOUSE, []), [])

    def test_worst_case(self):
        """Behind one finding of the first check there are three states, of the second and the third one two."""
        checks = [("where", ("box", 0)), ("on", 0), ("inside", 0)]
        self.returns(1, next_check, OPEN, checks)
        self.returns(1, next_check, OPEN, [checks[0], checks[2], checks[1]])
        self.returns(0, next_check, OPEN, checks[:1])
        house = House(1, (("hand", 0),), (("hand", 0),), (("hand", 0),))
        log = Log(house, [("gap", (0,))])
        self.returns([(0, 2), (None, 4)], findings, log, ("on", 0))
        self.returns(1, next_check, log, [("on", 0), ("where", THING), ("inside", 0)])

    def test_first_of_several(self):
        self.returns(0, next_check, Log(HOUSE, []), [("on", 1), ("on", 0), ("inside", 0)])
        self.returns(0, next_check, OPEN, [("on", 0)] * 8)
        self.returns(7, next_check, OPEN, [("where", ("box", 0))] * 7 + [("on", 0)])

    def test_errors(self):
        self.check_errors(next_check)


class Fewest(Many):

    def test_known_at_once(self):
        for checks in ([], [("on", 0)], [("on", 0)] * 8):
            self.returns(0, fewest_checks, OPEN, checks, ("at", ("box", 0), ("hand", 0)))
            self.returns(0, fewest_checks, OPEN, checks, ("not", ("at", ("box", 0), ("hand", 0))))
            self.returns(0, fewest_checks, Log(HOUSE, []), checks, ("gone", 1))

    def test_not_enough(self):
        self.returns(None, fewest_checks, OPEN, [], ("gone", 0))
        self.returns(None, fewest_checks, OPEN, [("inside", 0)], ("gone", 0))
        self.returns(None, fewest_checks, OPEN, [("where", THING), ("where", ("box", 0))], ("bare", 0))

    def test_one_is_enough(self):
        self.returns(1, fewest_checks, OPEN, [("inside", 0), ("on", 0)], ("gone", 0))
        self.returns(1, fewest_checks, OPEN, [("on", 0), ("inside", 0)], ("not", ("at", THING, ("box", 0))))

    def test_all_boxes_have_to_be_looked_into(self):
        house = House(1, (("hand", 0),) * 3, (("hand", 0),), (("hand", 0),))
        log = Log(house, [("gap", (0,))])
        inside = [("inside", 2), ("on", 0), ("inside", 0), ("inside", 1), ("inside", 0)]
        self.returns(3, fewest_checks, log, inside, ("at", THING, ("hand", 0)))
        self.returns(1, fewest_checks, log, inside + [("where", THING)], ("at", THING, ("hand", 0)))
        self.returns(None, fewest_checks, log, inside[:3], ("at", THING, ("hand", 0)))
        self.returns(1, fewest_checks, log, inside, ("at", THING, ("box", 0)))

    def test_all_items_have_to_be_looked_for(self):
        house = House(1, (("hand", 0),), (("hand", 0),) * 4, ())
        log = Log(house, [("gap", (0,))])
        where = [("where", ("thing", number)) for number in range(4)]
        self.returns(4, fewest_checks, log, where, ("in", 0, (THING, ("thing", 2))))
        self.returns(3, fewest_checks, log + [("not", ("at", ("thing", 3), ("box", 0)))], where, ("in", 0, (THING,)))

    def test_chosen_by_the_findings_before(self):
        """Thing 0 is with the hand, or in the box with thing 1: who knows which one need not look into all."""
        house = House(1, (("hand", 0),) * 3, (("hand", 0),) * 2, ())
        rows = [("gap", (0,)), ("not", ("at", ("thing", 1), ("hand", 0)))]
        rows += [("at", ("box", box), ("hand", 0)) for box in range(3)]
        log = Log(house, rows + [("not", ("in", box, (THING,))) for box in range(3)])
        inside = [("inside", 0), ("inside", 1), ("inside", 2)]
        self.returns(3, fewest_checks, log, inside, ("at", THING, ("hand", 0)))
        self.returns(2, fewest_checks, log, inside + [("where", ("thing", 1))], ("at", THING, ("hand", 0)))

    def test_eight_checks(self):
        self.returns(1, fewest_checks, OPEN, [("inside", 0)] * 7 + [("on", 0)], ("gone", 0))

    def test_errors(self):
        self.check_errors(fewest_checks, ("bare", 0))
        self.check_errors(fewest_checks, ("gone", 0))
        for error, sight in (
            (UnknownItem, ("at", ("thing", 2), ("hand", 2))), (UnknownHand, ("at", THING, ("hand", 2))),
            (UnknownBox, ("not", ("bare", 2))), (UnknownItem, ("in", 0, (THING, ("box", 1)))), (UnknownSeal, ("gone", 2)),
        ):
            self.raises(InvalidCheck, {"index": 0}, fewest_checks, NEVER, [("on", 2)], sight)
            self.raises(error, {}, fewest_checks, NEVER, [("on", 0)], sight)
            self.raises(error, {}, fewest_checks, Log(HOUSE, []), [], sight)


if __name__ == "__main__":
    unittest.main()
