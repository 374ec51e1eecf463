"""Random houses and logs, always the same ones, to try things on."""

import random
import unittest

from plain import Plain, some_house, some_rows
from sealwatch.logs import Log

SIZES = ((3, 2, 2, 2), (2, 3, 1, 2), (4, 1, 2, 1), (2, 2, 3, 1), (1, 3, 2, 2), (2, 1, 4, 3))


class Trials(unittest.TestCase):

    def each(self, seeds, most_rows, check):
        """Check a random log for each seed."""
        for seed in seeds:
            chance = random.Random(seed)
            plain = Plain(some_house(chance, SIZES[seed % len(SIZES)]))
            rows = some_rows(chance, plain, chance.randint(0, most_rows))
            with self.subTest(seed=seed):
                check(chance, plain, rows, Log(plain.house, rows))
