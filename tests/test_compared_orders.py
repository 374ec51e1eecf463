"""Tellers, joins and rounds (points 20 to 22), compared with a plain search through all states of small houses."""

import unittest

import plainer
from plain import some_sight
from sealwatch.errors import NoCourse
from sealwatch.joins import first_join, join_count, joined, surely_before
from sealwatch.logs import Log
from sealwatch.rounds import first_round, rounds, true_rounds
from sealwatch.tellers import least_left_out, liars
from trials import Trials


def with_doubts(chance, house, rows):
    """Up to nine rows, some of them perhaps wrong."""
    rows = rows[:6]
    for _ in range(chance.randint(0, 3)):
        rows.insert(chance.randint(0, len(rows)), some_sight(chance, house))
    return rows


def some_deeds(chance, plain):
    """Deeds that can be done once, and perhaps more often."""
    hands = tuple(range(plain.house.hands))
    state = plain.house.state
    deeds = []
    for _ in range(chance.randint(1, 6)):
        moves = plain.moves(state, hands)
        if moves:
            deed, state = chance.choice(moves)
            deeds.append(deed)
    if chance.random() < 0.6:
        deeds += plainer.way(plain, state, hands, lambda other: other[:2] == plain.house.state[:2]) or []
    return deeds[:12]


class Compared(Trials):

    def test_tellers(self):
        self.each(range(4000, 4240), 8, self.check_tellers)

    def check_tellers(self, chance, plain, rows, _):
        house = plain.house
        rows = with_doubts(chance, house, rows)
        tellers = tuple(None if row[0] == "gap" or chance.random() < 0.2 else chance.randrange(house.hands) for row in rows)
        log = Log(house, rows)
        if not plainer.fits(plain, plainer.without(rows, tellers, range(4))):
            self.assertRaises(NoCourse, liars, log, tellers)
            self.assertRaises(NoCourse, least_left_out, log, tellers)
            return
        self.assertEqual(liars(log, tellers), plainer.lying(plain, rows, tellers))
        self.assertEqual(least_left_out(log, tellers), plainer.left_out(plain, rows, tellers))

    def test_joins(self):
        self.each(range(4300, 4480), 6, self.check_joins)

    def check_joins(self, chance, plain, rows, _):
        parts = [[] for _ in range(chance.choice((2, 3)))]
        for row in with_doubts(chance, plain.house, rows)[:6]:
            chance.choice(parts).append(row)
        logs = tuple(Log(plain.house, part) for part in parts)
        fitting = []
        for join in plainer.all_joins(parts):
            told, places = plainer.in_turn(parts, join)
            self.assertEqual(joined(logs, join), Log(plain.house, told))
            if plainer.fits(plain, told):
                fitting.append((join, places))
        self.assertEqual(join_count(logs), len(fitting))
        self.assertEqual(first_join(logs), fitting[0][0] if fitting else None)
        names = [(number, index) for number, part in enumerate(parts) for index in range(len(part))]
        for one in names:
            for other in names:
                if one != other:
                    surely = all(places[one] < places[other] for _, places in fitting) if fitting else None
                    self.assertEqual(surely_before(logs, one, other), surely)

    def test_rounds(self):
        self.each(range(4500, 4800), 0, self.check_rounds)

    def check_rounds(self, chance, plain, *_):
        deeds = some_deeds(chance, plain)
        sight = some_sight(chance, plain.house)
        if deeds:
            for count in (0, 1, 2, 7):
                states, told = plainer.done(plain, plain.house.state, deeds, count)
                self.assertEqual(rounds(plain.world, deeds, count), told)
                true = [plainer.is_so(plain, state, sight) for state in states]
                self.assertEqual(true_rounds(plain.world, deeds, sight, count), sum(true))
            true = [plain.world.is_so(sight)] + true
            self.assertEqual(first_round(plain.world, deeds, sight), true.index(True) if True in true else None)


if __name__ == "__main__":
    unittest.main()
