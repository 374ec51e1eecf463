"""The examples of the interface, as they stand in the document."""

import unittest

EXAMPLES = r'''
>>> from sealwatch.houses import House
>>> house = House(2, (("hand", 0), ("box", 0)), (("box", 1),), (("box", 0),))
>>> [house.state[2], house.all_items, ("thing", 0) in house, ("box", 2) in house]
[(('box', 0),), [('box', 0), ('box', 1), ('seal', 0), ('thing', 0)], True, False]

>>> from sealwatch.houses import House
>>> House(1, (("hand", 0), ("box", 1)), (), ())
raises InvalidHouse(part='boxes', index=1)

>>> from sealwatch.houses import House
>>> House(1, (("hand", 0),), (), (("box", 0), ("box", 0)))
raises InvalidHouse(part='seals', index=1)

>>> from sealwatch.houses import House
>>> from sealwatch.worlds import World
>>> house = House(2, (("hand", 0), ("box", 0)), (("box", 1),), (("box", 0),))
>>> world = World(house)(("break", 0, 0))(("take", 0, ("box", 1), 0))
>>> [world.where(("seal", 0)), world.held(0), world.holder(("thing", 0)), world.inside(1), world.seal(0)]
[('gone', 0), [('box', 0), ('box', 1)], 0, [('thing', 0)], None]

>>> from sealwatch.houses import House
>>> from sealwatch.worlds import World
>>> world = World(House(2, (("hand", 0),), (("box", 0),), (("hand", 1),)))
>>> [world.is_so(("in", 0, (("thing", 0),))), world.is_so(("not", ("bare", 0))), world.is_so(("at", ("seal", 0), ("hand", 1)))]
[True, False, True]

>>> from sealwatch.houses import House
>>> from sealwatch.worlds import World
>>> world = World(House(2, (("hand", 0),), (("box", 0),), (("box", 0),)))
>>> world(("take", 0, ("thing", 0), 0))
raises IsSealed()

>>> from sealwatch.houses import House
>>> from sealwatch.worlds import World
>>> world = World(House(2, (("hand", 0),), (("hand", 1),), ()))
>>> world(("put", 0, ("thing", 0), 0))
raises NotHeld()

>>> from sealwatch.houses import House
>>> from sealwatch.logs import Log, final_states, impossible_row
>>> house = House(2, (("hand", 0),), (("hand", 1),), ())
>>> log = Log(house, [("gap", (0,)), ("at", ("thing", 0), ("box", 0))])
>>> more = Log(house, [("gap", (0, 1)), ("in", 0, (("thing", 0),))])
>>> [impossible_row(log), impossible_row(more), final_states(more)]
[1, None, [((('hand', 0),), (('box', 0),), ()), ((('hand', 1),), (('box', 0),), ())]]

>>> from sealwatch.houses import House
>>> from sealwatch.logs import Log
>>> log = Log(House(3, (("hand", 0),), (), ()), [("gap", (0, 2)), ("bare", 0), ("gap", (1,))])
>>> [log.gaps, len(log), log[1], log.watched((1, 2)).rows, log.until(1).rows]
[[0, 2], 3, ('bare', 0), (('gap', (2,)), ('bare', 0), ('gap', (1,))), (('gap', (0, 2)),)]

>>> from sealwatch.houses import House
>>> from sealwatch.logs import Log
>>> Log(House(2, (("hand", 0),), (), ()), [("bare", 0), ("give", 1, ("box", 0), 1)])
raises InvalidLog(index=1)

>>> from sealwatch.houses import House
>>> from sealwatch.logs import Log
>>> from sealwatch.questions import answer, possible_places
>>> house = House(2, (("hand", 0),), (("box", 0),), (("box", 0),))
>>> log = Log(house, [("gap", (0,))])
>>> whole = log + [("not", ("bare", 0))]
>>> [possible_places(log, ("thing", 0)), possible_places(whole, ("thing", 0)), answer(log, ("gone", 0)), answer(whole, ("gone", 0))]
[[('box', 0), ('hand', 0)], [('box', 0)], 'sometimes', 'never']

>>> from sealwatch.houses import House
>>> from sealwatch.logs import Log
>>> from sealwatch.touching import touch_span, touch_words
>>> house = House(3, (("hand", 0),), (("box", 0),), ())
>>> log = Log(house, [("gap", (0, 1)), ("at", ("thing", 0), ("hand", 1))])
>>> [touch_words(log, ("thing", 0)), touch_span(log, ("thing", 0), 0), touch_span(log, ("thing", 0), 1), touch_span(log, ("box", 0), 0)]
[['perhaps', 'surely', 'never'], (1, 1), (1, 2), (0, 2)]

>>> from sealwatch.houses import House
>>> from sealwatch.logs import Log
>>> from sealwatch.touching import touch_words
>>> log = Log(House(2, (("hand", 0),), (("hand", 0),), ()), [("at", ("thing", 0), ("hand", 1))])
>>> touch_words(log, ("thing", 0))
raises NoCourse()

>>> from sealwatch.courses import course_count, courses, fewest_course
>>> from sealwatch.houses import House
>>> from sealwatch.logs import Log
>>> house = House(2, (("hand", 0),), (("box", 0),), ())
>>> log = Log(house, [("gap", (0, 1)), ("at", ("thing", 0), ("hand", 1))])
>>> [fewest_course(log), course_count(log, 2), course_count(log, 3), list(courses(log, 2))]
[(2, [[('give', 0, ('box', 0), 1), ('take', 1, ('thing', 0), 0)]]), 2, 3, [[[('give', 0, ('box', 0), 1), ('take', 1, ('thing', 0), 0)]], [[('take', 0, ('thing', 0), 0), ('give', 0, ('thing', 0), 1)]]]]

>>> from sealwatch.courses import first_fault
>>> from sealwatch.houses import House
>>> from sealwatch.logs import Log
>>> house = House(2, (("hand", 0),), (("box", 0),), ())
>>> log = Log(house, [("gap", (0,)), ("at", ("thing", 0), ("hand", 0))])
>>> give = ("give", 0, ("thing", 0), 1)
>>> take = ("take", 0, ("thing", 0), 0)
>>> [first_fault(log, [[take]]), first_fault(log, [[]]), first_fault(log, [[take, give]]), first_fault(log, [[take, take]])]
[None, (1, -1), (0, 1), (0, 1)]

>>> from sealwatch.courses import first_fault
>>> from sealwatch.houses import House
>>> from sealwatch.logs import Log
>>> first_fault(Log(House(1, (("hand", 0),), (), ()), [("bare", 0)]), [[]])
raises InvalidCourse()

>>> from sealwatch.houses import House
>>> from sealwatch.logs import Log
>>> from sealwatch.teams import indispensable, least_teams
>>> house = House(3, (("hand", 0),), (("hand", 1),), ())
>>> log = Log(house, [("gap", (0, 1, 2)), ("in", 0, (("thing", 0),))])
>>> plain = Log(house, [("gap", (0, 1, 2)), ("bare", 0)])
>>> [least_teams(log), indispensable(log), least_teams(plain)]
[[(0, 1)], [0, 1], [()]]

>>> from sealwatch.houses import House
>>> from sealwatch.ways import reachable, shortest_way
>>> from sealwatch.worlds import World
>>> house = House(2, (("hand", 0),), (("box", 0),), ())
>>> world = World(house)
>>> goal = ("at", ("thing", 0), ("hand", 1))
>>> [shortest_way(world, (0, 1), goal), shortest_way(world, (0,), goal), len(reachable(house, [house.state], (0, 1)))]
[[('give', 0, ('box', 0), 1), ('take', 1, ('thing', 0), 0)], None, 6]

>>> from sealwatch.checks import fewest_checks, finding, findings, next_check, sight_of
>>> from sealwatch.houses import House
>>> house = House(2, (("hand", 0),), (("box", 0),), (("box", 0),))
>>> from sealwatch.logs import Log
>>> from sealwatch.worlds import World
>>> log = Log(house, [("gap", (0,))])
>>> checks = [("on", 0), ("where", ("thing", 0))]
>>> told = [finding(World(house), ("inside", 0)), findings(log, ("on", 0)), findings(log, ("where", ("thing", 0)))]
>>> told + [sight_of(("on", 0), None), next_check(log, checks), fewest_checks(log, checks, ("gone", 0))]
[(('thing', 0),), [(0, 1), (None, 2)], [(('box', 0), 2), (('hand', 0), 1)], ('bare', 0), 0, 1]

>>> from sealwatch.checks import next_check
>>> from sealwatch.houses import House
>>> house = House(2, (("hand", 0),), (("box", 0),), (("box", 0),))
>>> from sealwatch.logs import Log
>>> next_check(Log(house, []), [("on", 0), ("on", 1)])
raises InvalidCheck(index=1)

>>> from sealwatch.guards import guards, unnoticed_way
>>> from sealwatch.houses import House
>>> house = House(2, (("hand", 0),), (("box", 0),), (("box", 0),))
>>> from sealwatch.worlds import World
>>> sight = ("at", ("thing", 0), ("hand", 0))
>>> way = unnoticed_way(World(house), (0,), sight, [])
>>> [way, guards(World(house), (0,), sight, [("where", ("box", 0)), ("on", 0), ("inside", 0)])]
[[('break', 0, 0), ('take', 0, ('thing', 0), 0)], [1]]

>>> from sealwatch.houses import House
>>> house = House(2, (("hand", 0),), (("box", 0),), (("box", 0),))
>>> from sealwatch.logs import Log
>>> from sealwatch.tellers import least_left_out, liars
>>> log = Log(house, [("bare", 0), ("at", ("thing", 0), ("box", 0))])
>>> [liars(log, (1, 0)), least_left_out(log, (1, 0)), liars(log.until(0), ())]
[[(1,)], [0], [()]]

>>> from sealwatch.houses import House
>>> house = House(2, (("hand", 0),), (("box", 0),), (("box", 0),))
>>> from sealwatch.logs import Log
>>> from sealwatch.tellers import liars
>>> liars(Log(house, [("bare", 0), ("gap", (0,))]), (0, 0))
raises InvalidTeller(index=1)

>>> from sealwatch.houses import House
>>> house = House(2, (("hand", 0),), (("box", 0),), (("box", 0),))
>>> from sealwatch.joins import first_join, join_count, joined, surely_before
>>> from sealwatch.logs import Log
>>> logs = (Log(house, [("bare", 0)]), Log(house, [("break", 0, 0)]))
>>> [join_count(logs), first_join(logs), joined(logs, (1, 0)).rows, surely_before(logs, (0, 0), (1, 0))]
[1, (1, 0), (('break', 0, 0), ('bare', 0)), False]

>>> from sealwatch.houses import House
>>> house = House(2, (("hand", 0),), (("box", 0),), (("box", 0),))
>>> from sealwatch.joins import join_count
>>> from sealwatch.logs import Log
>>> join_count((Log(house, []),))
raises InvalidLogs(index=1)

>>> from sealwatch.houses import House
>>> house = House(2, (("hand", 0),), (("box", 0),), (("box", 0),))
>>> from sealwatch.rounds import first_round, rounds, true_rounds
>>> from sealwatch.worlds import World
>>> deeds = [("break", 0, 0)]
>>> told = rounds(World(house), deeds, 10 ** 18)
>>> [told, true_rounds(World(house), deeds, ("gone", 0), 9), first_round(World(house), deeds, ("gone", 0))]
[(((('hand', 0),), (('box', 0),), (('gone', 0),)), (1, 0)), 1, 1]

>>> from sealwatch.houses import House
>>> house = House(2, (("hand", 0),), (("box", 0),), (("box", 0),))
>>> from sealwatch.watches import Watch
>>> watch = Watch(house)
>>> told = [watch.add(("gap", (0,))), watch.mark("a"), watch.add(("bare", 0)), watch.go("a"), watch.undo()]
>>> told + [watch.marks, watch.surely(("gone", 0))]
[3, False, 2, 1, True, ['a'], 'always']

>>> from sealwatch.houses import House
>>> house = House(2, (("hand", 0),), (("box", 0),), (("box", 0),))
>>> from sealwatch.watches import Watch
>>> Watch(house).apply_all([("add", ("gap", (0,))), ("add",)])
raises InvalidOperation(index=1)

>>> from sealwatch.houses import House
>>> house = House(2, (("hand", 0),), (("box", 0),), (("box", 0),))
>>> from sealwatch.logs import Log
>>> from sealwatch.suspects import Suspects
>>> suspects = Suspects(Log(house, [("gap", (0, 1))]))
>>> told = [suspects.candidates, suspects.see(("bare", 0)), suspects.candidates]
>>> told + [suspects.can_be(0, ("at", ("thing", 0), ("hand", 0))), suspects.telling([("on", 0)])]
[(0, 1), 1, (0,), True, 0]

>>> from sealwatch.houses import House
>>> house = House(2, (("hand", 0),), (("box", 0),), (("box", 0),))
>>> from sealwatch.logs import Log
>>> from sealwatch.shares import share, touch_shares
>>> log = Log(house, [("gap", (0,))])
>>> [share(log, 2, ("at", ("thing", 0), ("hand", 0))), touch_shares(log, 3, ("thing", 0))]
[(1, 1), [(1, 1), (0, 1)]]

>>> from sealwatch.houses import House
>>> house = House(2, (("hand", 0),), (("box", 0),), (("box", 0),))
>>> from sealwatch.logs import Log
>>> from sealwatch.notation import format_log, parse_log
>>> text = format_log(Log(house, [("gap", (0,)), ("not", ("bare", 0))]))
>>> [text, parse_log(text).rows]
['hands 2\nbox hand 0\nthing box 0\nseal box 0\nlog\ngap 0\nnot bare 0', (('gap', (0,)), ('not', ('bare', 0)))]

>>> from sealwatch.notation import parse_log
>>> parse_log("hands 1\nlog\nbare x")
raises InvalidText(row=2, word=1)

>>> from sealwatch.boards import board
>>> from sealwatch.houses import House
>>> house = House(2, (("hand", 0),), (("box", 0),), (("box", 0),))
>>> from sealwatch.worlds import World
>>> board(World(house))
'hand 0: box 0 (seal 0) [thing 0]\nhand 1:'

>>> from sealwatch.codec import decode_log, encode_log
>>> from sealwatch.houses import House
>>> from sealwatch.logs import Log
>>> values = encode_log(Log(House(1, (("hand", 0),), (), ()), [("bare", 0)]))
>>> [values, decode_log(values).rows]
[[115, 1, 1, 0, 0, 0, 0, 1, 6, 0, 128], (('bare', 0),)]

>>> from sealwatch.codec import decode_log
>>> decode_log([115, 1])
raises DecodeError(offset=2)

>>> from sealwatch.daybooks import Daybook
>>> text = "hands 2\nbox hand 0\nthing box 0\nseal box 0\nlog\nask bare 0\nwho thing 0\ngap 0\nwhere thing 0"
>>> [Daybook(text).results, Daybook(text).log().rows]
['never\nnever never\nbox 0, hand 0', (('gap', (0,)),)]

>>> from sealwatch.daybooks import Daybook
>>> Daybook("hands 1\nbox hand 0\nlog\nwho box")
raises DaybookError(row=3, word=2)
'''


def told_by(names, line):
    """What a line of an example shows."""
    try:
        return repr(eval(line, names))
    except ValueError as error:
        told = ", ".join(f"{name}={value!r}" for name, value in vars(error).items())
        return f"raises {type(error).__name__}({told})"


class Examples(unittest.TestCase):

    def test_all(self):
        for example in EXAMPLES.strip().split("\n\n"):
            with self.subTest(example=example):
                self.run_example(example.split("\n"))

    def run_example(self, lines):
        """The last line tells what the last but one shows."""
        names = {}
        for line in lines[:-2]:
            exec(line[4:], names)
        self.assertEqual(told_by(names, lines[-2][4:]), lines[-1])


if __name__ == "__main__":
    unittest.main()

