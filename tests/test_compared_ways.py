"""Teams, ways and checks (points 16 to 19), compared with a plain search through all states of small houses."""

import unittest

import plainer
from plain import some_checks, some_sight
from sealwatch.checks import fewest_checks, finding, findings, next_check
from sealwatch.errors import NoCourse
from sealwatch.guards import guards, unnoticed_way
from sealwatch.teams import indispensable, least_teams
from sealwatch.ways import reachable, shortest_way
from trials import Trials


def some_hands(chance, house):
    return tuple(hand for hand in range(house.hands) if chance.random() < 0.7)


def some_world(chance, plain):
    """The world of some state that all hands can bring about."""
    states = plainer.reached(plain, [plain.house.state], tuple(range(plain.house.hands)))
    return plain.world.changed(chance.choice(states))


class Compared(Trials):

    def test_teams(self):
        self.each(range(2000, 2200), 8, self.check_teams)

    def check_teams(self, _, plain, rows, log):
        teams = plainer.teams(plain, rows)
        if not teams:
            self.assertRaises(NoCourse, least_teams, log)
            self.assertRaises(NoCourse, indispensable, log)
            return
        self.assertEqual(least_teams(log), teams)
        hands = [hand for hand in range(4) if all(hand in team for team in teams)]
        self.assertEqual(indispensable(log), hands)

    def test_ways(self):
        self.each(range(2200, 2400), 0, self.check_ways)

    def check_ways(self, chance, plain, *_):
        world = some_world(chance, plain)
        hands = some_hands(chance, plain.house)
        for _ in range(3):
            sight = some_sight(chance, plain.house)
            way = plainer.way(plain, world.state, hands, lambda state: plainer.is_so(plain, state, sight))
            self.assertEqual(shortest_way(world, hands, sight), way)

    def test_reachable(self):
        self.each(range(2400, 2500), 0, self.check_reachable)

    def check_reachable(self, chance, plain, *_):
        states = [some_world(chance, plain).state for _ in range(chance.randint(0, 4))]
        hands = some_hands(chance, plain.house)
        self.assertEqual(reachable(plain.house, states, hands), plainer.reached(plain, states, hands))

    def test_findings(self):
        self.each(range(2600, 2800), 7, self.check_findings)

    def check_findings(self, chance, plain, rows, log):
        states = sorted(plain.states(rows)[-1])
        checks = some_checks(chance, plain.house, 5)
        if not states:
            self.assertRaises(NoCourse, next_check, log, checks)
            return
        worst = []
        for check in checks:
            parts = plainer.parts(plain, states, check)
            self.assertEqual(findings(log, check), [(what, len(found)) for what, found in parts.items()])
            worst.append(max(len(found) for found in parts.values()))
            world = plain.world.changed(states[-1])
            self.assertEqual(finding(world, check), plainer.find(plain, states[-1], check))
        self.assertEqual(next_check(log, checks), worst.index(min(worst)) if checks else None)

    def test_fewest_checks(self):
        self.each(range(2800, 3000), 5, self.check_fewest_checks)

    def check_fewest_checks(self, chance, plain, rows, log):
        """A gap for all hands goes ahead, so that there are many states to tell apart."""
        log = log.until(0) + [("gap", tuple(range(plain.house.hands)))] + rows[:2]
        states = sorted(plain.states(log.rows)[-1])
        if 0 < len(states) < 2000:
            checks = some_checks(chance, plain.house, 4)
            for _ in range(4):
                sight = some_sight(chance, plain.house)
                number = plainer.fewest(plain, states, checks, sight)
                expected = None if number == plainer.FAR else number
                self.assertEqual(fewest_checks(log, checks, sight), expected)

    def test_guards(self):
        self.each(range(3000, 3200), 0, self.check_guards)

    def check_guards(self, chance, plain, *_):
        world = some_world(chance, plain)
        hands = some_hands(chance, plain.house)
        checks = some_checks(chance, plain.house, 5)
        same = [plainer.find(plain, world.state, check) for check in checks]
        sight = some_sight(chance, plain.house)

        def is_unnoticed(state, indexes):
            return all(plainer.find(plain, state, checks[index]) == same[index] for index in indexes)

        way = plainer.way(plain, world.state, hands, lambda state: plainer.is_so(plain, state, sight)
                          and is_unnoticed(state, range(len(checks))))
        self.assertEqual(unnoticed_way(world, hands, sight, checks), way)
        states = plainer.reached(plain, [world.state], hands)
        goals = [state for state in states if plainer.is_so(plain, state, sight)]
        enough = [list(indexes) for indexes in plainer.all_subsets(range(len(checks)))
                  if not any(is_unnoticed(state, indexes) for state in goals)]
        self.assertEqual(guards(world, hands, sight, checks), enough[0] if enough else None)


if __name__ == "__main__":
    unittest.main()
