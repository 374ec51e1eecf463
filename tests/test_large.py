"""Houses and logs of the greatest size, with very many states and courses."""

import itertools
import unittest

from sealwatch.checks import fewest_checks, findings, next_check
from sealwatch.courses import course_count, courses, fewest_course, first_fault
from sealwatch.daybooks import Daybook
from sealwatch.errors import NoCourse
from sealwatch.guards import guards, unnoticed_way
from sealwatch.houses import House
from sealwatch.joins import first_join, join_count, surely_before
from sealwatch.logs import Log, final_states, impossible_row
from sealwatch.notation import format_log
from sealwatch.questions import answer, possible_places
from sealwatch.shares import share, touch_shares
from sealwatch.suspects import Suspects
from sealwatch.teams import least_teams
from sealwatch.tellers import least_left_out, liars
from sealwatch.touching import touch_span, touch_words
from sealwatch.watches import Watch
from sealwatch.ways import reachable, shortest_way
from sealwatch.worlds import World

HOUSE = House(
    4,
    (("hand", 0), ("hand", 1), ("box", 0)),
    (("box", 0), ("box", 1), ("hand", 2), ("box", 2)),
    (("box", 0), ("hand", 3), ("box", 1)),
)
FREE = House(4, (("hand", 0),) * 3, (("hand", 0),) * 4, (("hand", 0),) * 3)
ALL = ("gap", (0, 1, 2, 3))
GOAL = [("at", ("thing", 0), ("hand", 3)), ("at", ("thing", 1), ("box", 0)), ("at", ("thing", 2), ("box", 1)),
        ("at", ("box", 1), ("hand", 1)), ("at", ("box", 0), ("hand", 2))]
HANDS = [("hand", hand) for hand in range(4)]


class Large(unittest.TestCase):

    def test_all_unwatched(self):
        log = Log(HOUSE, [ALL])
        self.assertEqual(possible_places(log, ("thing", 3)), [("box", 0), ("box", 1), ("box", 2)] + HANDS)
        self.assertEqual(possible_places(log, ("seal", 0)), [("box", 0), ("gone", 0)])
        self.assertEqual(possible_places(log, ("box", 0)), [("box", 1), ("box", 2)] + HANDS)
        self.assertEqual(answer(log, ("in", 2, (("box", 1), ("thing", 0), ("thing", 3)))), "sometimes")
        self.assertEqual(touch_words(log, ("thing", 2)), ["perhaps", "perhaps", "surely", "perhaps"])
        self.assertEqual(touch_words(log, ("seal", 0)), ["never"] * 4)

    def test_goal(self):
        log = Log(HOUSE, [ALL] + GOAL)
        self.assertIsNone(impossible_row(log))
        self.assertEqual(answer(log, ("gone", 2)), "always")
        self.assertEqual(answer(log, ("in", 0, (("thing", 1),))), "sometimes")
        self.assertEqual(touch_words(log, ("thing", 1)), ["perhaps"] * 4)
        self.assertEqual(touch_words(log, ("thing", 2)), ["perhaps", "perhaps", "surely", "perhaps"])
        self.assertEqual(touch_span(log, ("thing", 0), 3), (1, 6))
        number, course = fewest_course(log)
        self.assertEqual(number, 10)
        self.assertIsNone(first_fault(log, course))
        self.assertEqual([course_count(log, fewer) for fewer in range(10)], [0] * 10)
        self.assertEqual(next(courses(log, 10)), course)

    def test_thirty_rows(self):
        rows = []
        for number in range(10):
            pair = (("gap", (0, 1)), ("gap", (1, 2)), ("gap", (2, 3)), ("gap", (0, 3)))[number % 4]
            rows += [ALL, pair, ("not", ("in", number % 3, (("thing", number % 4),)))]
        log = Log(HOUSE, rows)
        self.assertEqual(len(log), 30)
        self.assertEqual(possible_places(log, ("thing", 3)), [("box", 0), ("box", 1), ("box", 2)] + HANDS)
        self.assertEqual(touch_span(log, ("thing", 3), 2), (1, 30))
        number, course = fewest_course(log)
        self.assertEqual((number, first_fault(log, course)), (2, None))
        found = list(itertools.islice(courses(log, 20), 3))
        self.assertEqual([sum([len(deeds) for deeds in one]) for one in found], [20, 20, 20])

    def test_far_more_courses_than_can_be_made(self):
        alike = House(1, (("hand", 0),) * 3, (("hand", 0),) * 4, (("hand", 0),) * 3)
        count = course_count(Log(alike, [("gap", (0,))]), 20)
        self.assertEqual(count, 1952686280547176722146)
        counts = [course_count(Log(alike, [("gap", (0,))] + rows), 8)
                  for rows in ([("at", ("thing", 1), ("box", 2))], [("not", ("at", ("thing", 1), ("box", 2)))], [])]
        self.assertEqual(counts[0] + counts[1], counts[2])

    def test_sums_of_counts(self):
        """Each sight and its contrary share all courses, whatever is alike."""
        log = Log(HOUSE, [("gap", (0, 1)), ("bare", 2), ("gap", (1, 2, 3))])
        for sight in (("gone", 0), ("at", ("thing", 1), ("hand", 2)), ("in", 1, (("thing", 1),)), ("bare", 1)):
            counts = [course_count(log + rows, 6) for rows in ([sight], [("not", sight)], [])]
            self.assertEqual(counts[0] + counts[1], counts[2])

    def test_few_states_of_many(self):
        places = [("at", ("thing", number), ("hand", 3)) for number in range(4)]
        places += [("at", ("box", number), ("hand", 3)) for number in range(3)]
        log = Log(HOUSE, [ALL] + places + [("gone", 0), ("gone", 1), ("gone", 2)])
        gone = ("gone", 0)
        self.assertEqual(final_states(log), [((HANDS[3],) * 3, (HANDS[3],) * 4, (gone,) * 3)])

    def test_nothing_fits(self):
        log = Log(HOUSE, [ALL, ("at", ("thing", 3), ("hand", 3)), ("not", ("gone", 0)), ("not", ("gone", 2)), ALL])
        self.assertEqual(impossible_row(log), 2)
        self.assertRaises(NoCourse, fewest_course, log)
        self.assertEqual(course_count(log, 20), 0)
        self.assertEqual(list(courses(log, 20)), [])

    def test_teams(self):
        log = Log(HOUSE, [ALL] + GOAL)
        self.assertEqual(least_teams(log), [(0, 1, 2, 3)])
        self.assertEqual(least_teams(Log(HOUSE, [ALL, ALL, ("gone", 0)] * 10)), [(0,)])
        teams = least_teams(Log(HOUSE, [ALL, ("gone", 1)]))
        self.assertEqual(teams, [(0, 3), (1, 3)])

    def test_shortest_ways(self):
        for sight in (GOAL[0], GOAL[3], ("in", 1, (("box", 0), ("thing", 2))), ("in", 2, ()), ("gone", 1), ("bare", 0)):
            way = shortest_way(World(HOUSE), (0, 1, 2, 3), sight)
            self.assertEqual(fewest_course(Log(HOUSE, [ALL, sight])), (len(way), [way]))
        self.assertIsNone(shortest_way(World(HOUSE), (0, 1, 2, 3), ("at", ("seal", 0), ("hand", 0))))

    def test_reachable(self):
        for hands in ((0,), (1, 3), (2,)):
            states = reachable(HOUSE, [HOUSE.state], hands)
            self.assertEqual(states, final_states(Log(HOUSE, [("gap", hands)])))
            self.assertEqual(reachable(HOUSE, states[::3] + [HOUSE.state], hands), states)

    def test_counts_of_findings(self):
        """All combinations of 196 ways to nest the boxes, 446 to place the seals, and 7 places for each thing."""
        log = Log(FREE, [ALL])
        many = 196 * 446 * 7 ** 4
        where = findings(log, ("where", ("thing", 1)))
        self.assertEqual([count for _, count in where], [many // 7] * 7)
        counts = dict(findings(log, ("inside", 2)))
        self.assertEqual((len(counts), sum(counts.values())), (64, many))
        for items, count in counts.items():
            boxes = len([item for item in items if item[0] == "box"])
            self.assertEqual(count, (144, 24, 4)[boxes] * 446 * 6 ** (4 - len(items) + boxes))
        counts = dict(findings(log, ("on", 1)))
        self.assertEqual([counts[seal] * 446 for seal in range(3)], [many * (25 + 2 * 2 * 5 + 2)] * 3)
        self.assertEqual(sum(counts.values()), many)

    def test_checks(self):
        log = Log(FREE, [ALL])
        where = [("where", item) for item in FREE.all_items if item[0] != "seal"]
        self.assertEqual(next_check(log, [("on", 0)] + where), 4)
        self.assertEqual(fewest_checks(log, where + [("on", 0)], ("in", 0, (("thing", 0), ("thing", 1)))), 6)
        self.assertEqual(fewest_checks(log, where, ("bare", 0)), None)
        nowhere = [("not", ("at", ("thing", 0), ("hand", hand))) for hand in (0, 2, 3)]
        checks = where[:2] + [("on", 0), ("on", 1), ("inside", 0), ("inside", 1), ("inside", 2)]
        self.assertEqual(fewest_checks(log + nowhere, checks, ("at", ("thing", 0), ("hand", 1))), 3)

    def test_guards(self):
        checks = [("inside", 0), ("inside", 1), ("inside", 2), ("on", 0), ("on", 1), ("on", 2), ("where", ("thing", 0))]
        sights = [("at", ("box", 0), ("hand", 3)), ("gone", 1), ("at", ("thing", 2), ("box", 2)), ("at", ("box", 1), ("box", 1))]
        found = [guards(World(HOUSE), (0, 1, 2, 3), sight, checks) for sight in sights]
        self.assertEqual(found, [None, [3, 4], [2], []])
        self.assertEqual(guards(World(FREE), (0, 1, 2, 3), ("at", ("thing", 1), ("hand", 3)), checks), None)
        way = unnoticed_way(World(HOUSE), (0, 1, 2, 3), sights[0], checks)
        self.assertEqual(way, [("give", 0, ("box", 0), 3)])
        self.assertIsNone(unnoticed_way(World(HOUSE), (0, 1, 2, 3), sights[1], checks))

    def test_tellers(self):
        rows = [ALL, ("bare", 0), ("gap", (0, 1)), ("not", ("bare", 0)), ("gap", (1, 2)), ("not", ("gone", 0))] * 5
        tellers = (None, 0, None, 1, None, 2) * 5
        self.assertEqual(liars(Log(HOUSE, rows), tellers), [(0,), (1, 2)])
        self.assertEqual(least_left_out(Log(HOUSE, rows), tellers), [1, 7, 13, 19, 25])
        tellers = (None, 0, None, 1, None, None) * 5
        self.assertEqual(liars(Log(HOUSE, rows), tellers), [(0,)])

    def test_joins(self):
        deeds = [("break", 0, 0), ("take", 0, ("thing", 0), 0), ("give", 0, ("thing", 0), 3), ("bare", 0)]
        logs = (Log(HOUSE, deeds[1:]), Log(HOUSE, [ALL, ("gone", 1), ("gap", (1, 2))]), Log(HOUSE, deeds[:1] + deeds[3:]))
        count = join_count(logs)
        self.assertEqual(first_join(logs), (1, 1, 1, 2, 0, 0, 0, 2))
        self.assertEqual(surely_before(logs, (2, 0), (0, 0)), True)
        self.assertEqual(surely_before(logs, (2, 0), (1, 0)), False)
        self.assertEqual(surely_before(logs, (1, 0), (1, 1)), True)
        self.assertGreater(count, 20)

    def test_watch(self):
        watch = Watch(HOUSE)
        rows = [ALL, ("gap", (0, 1)), ("not", ("in", 2, (("thing", 0),))), ("gap", (1, 2))] * 7 + [("gone", 0), ("gone", 1)]
        counts = [watch.add(row) for row in rows]
        self.assertEqual(counts[0], sum([count for _, count in findings(Log(HOUSE, [ALL]), ("on", 0))]))
        self.assertEqual(counts[-1], sum([count for _, count in findings(watch.log(), ("on", 0))]))
        self.assertEqual([watch.undo() for _ in range(31)], [True] * 30 + [False])

    def test_suspects(self):
        suspects = Suspects(Log(FREE, [ALL, ("give", 0, ("box", 0), 1)] + [("gap", (0, 2)), ALL] * 5))
        self.assertEqual(suspects.candidates, (0, 1, 2, 3))
        self.assertEqual(suspects.see(("not", ("in", 0, ()))), 1)
        self.assertEqual(suspects.candidates, (0,))
        self.assertEqual(suspects.telling([("on", 0), ("where", ("thing", 0))]), 0)

    def test_shares(self):
        log = Log(HOUSE, [ALL, ("not", ("gone", 1)), ("gap", (0, 2))])
        for item in (("thing", 1), ("seal", 1), ("box", 2)):
            parts = [share(log, 5, ("at", item, ("hand", hand))) for hand in range(4)]
            for part, touched in zip(parts, touch_shares(log, 5, item)):
                self.assertLessEqual(part[0] * touched[1], touched[0] * part[1])

    def test_daybook(self):
        log = Log(HOUSE, [ALL, ("gap", (0, 1)), ("not", ("in", 2, (("thing", 0),))), ("gap", (1, 2))] * 3)
        lines = format_log(log).split("\n")
        text = "\n".join(lines[:-1] + ["who thing 0"] * 30 + lines[-1:] + ["who thing 0", "ask gone 0", "where box 0"] * 20)
        words = [" ".join(touch_words(part, ("thing", 0))) for part in (log.until(11), log)]
        places = ", ".join([f"{word} {number}" for word, number in possible_places(log, ("box", 0))])
        self.assertEqual(Daybook(text).results.split("\n"), words[:1] * 30 + [words[1], answer(log, ("gone", 0)), places] * 20)


if __name__ == "__main__":
    unittest.main()
