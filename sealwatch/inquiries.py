"""Inquiries: how many checks are enough to know whether a sight is true."""

from sealwatch.cells import behind_ways
from sealwatch.plans import sight_ways
from sealwatch.views import apart_by, blurred, have_common, stand_ins, view_of_check, view_of_sight


class Inquiry:
    """A sight, and checks that can be made one by one."""

    def __init__(self, house, sight, checks):
        self.true_ways = sight_ways(house, sight, True)
        self.false_ways = sight_ways(house, sight, False)
        self.views = [view_of_check(house, check) for check in checks]
        self.sight_view = view_of_sight(house, sight)
        self.blurs = {}
        self.known = {}

    def is_known(self, cells):
        return len(behind_ways(cells, self.true_ways)) == 0 or len(behind_ways(cells, self.false_ways)) == 0

    def least_number(self, cells):
        """How many checks are enough to know, in the worst case, or None if all of them are not."""
        if self.is_known(cells):
            return 0
        if not self.is_told_by_all(cells):
            return None
        left = tuple(range(len(self.views)))
        number = 1
        while not self.can_know(cells, left, number):
            number += 1
        return number

    def is_told_by_all(self, cells):
        """Whether no state of which the sight is true has all findings in common with one of which it is not."""
        if len(self.views) == 0:
            return False
        codes = stand_ins(self.views)
        true_cells = blurred(behind_ways(cells, self.true_ways), codes)
        false_cells = blurred(behind_ways(cells, self.false_ways), codes)
        return not have_common(true_cells, false_cells)

    def can_know(self, cells, left, number):
        """Whether so many of the checks that are left are enough; all of them are."""
        if self.is_known(cells) or number >= len(left):
            return True
        if number == 0:
            return False
        # Only what these checks and the sight still tell apart matters, so many findings come to the same.
        cells = self.blurred_for(cells, left)
        key = (tuple(cells), left, number)
        if key not in self.known:
            self.known[key] = self.finds_check(cells, left, number)
        return self.known[key]

    def blurred_for(self, cells, left):
        if left not in self.blurs:
            self.blurs[left] = stand_ins([self.views[check] for check in left] + [self.sight_view])
        return blurred(cells, self.blurs[left])

    def finds_check(self, cells, left, number):
        for check in left:
            parts = list(apart_by(cells, self.views[check]).values())
            others = tuple([other for other in left if other != check])
            if len(parts) > 1 and self.can_know_all(parts, others, number - 1):
                return True
        return False

    def can_know_all(self, parts, left, number):
        for part in parts:
            if not self.can_know(part, left, number):
                return False
        return True
