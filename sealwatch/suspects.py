"""Suspects: who can have done all secret deeds alone."""

from sealwatch.cells import behind_step, behind_ways, last_cells
from sealwatch.checks import need_checks
from sealwatch.errors import NoCourse
from sealwatch.known import need_hand
from sealwatch.plans import plan_of, sight_ways, step_of
from sealwatch.sights import need_sight
from sealwatch.views import apart_by, view_of_check


class Suspects:
    """A log of which one hand alone did all secret deeds, and what there can be at its end with each hand."""

    def __init__(self, log):
        self.house = log.house
        self.plan = plan_of(log)
        self.story = log
        ends = [(hand, last_cells(plan_of(log.watched((hand,))), None)) for hand in range(log.house.hands)]
        self.ends = {hand: cells for hand, cells in ends if len(cells) > 0}
        if len(self.ends) == 0:
            raise NoCourse("no course fits the log with one hand alone")

    @property
    def candidates(self):
        return tuple(sorted(list(self.ends)))

    def log(self):
        """The log with all rows that were added."""
        return self.story

    def see(self, row):
        """Add a row to the log; returns how many candidates remain."""
        story = self.story + [row]
        ends = [(hand, self.cells_behind(hand, row)) for hand in self.ends]
        ends = [(hand, cells) for hand, cells in ends if len(cells) > 0]
        if len(ends) == 0:
            raise NoCourse("no candidate would remain")
        self.story = story
        self.ends = dict(ends)
        return len(ends)

    def cells_behind(self, hand, row):
        """The cells behind one more row if it is this hand."""
        if row[0] == "gap":
            row = ("gap", (hand,) if hand in row[1] else ())
        return behind_step(self.plan, step_of(self.house, row), self.ends[hand], None)

    def can_be(self, hand, sight):
        """Whether a sight can be true at the end if it is this hand."""
        need_hand(self.house, hand)
        need_sight(self.house, sight)
        return hand in self.ends and len(behind_ways(self.ends[hand], sight_ways(self.house, sight, True))) > 0

    def telling(self, checks):
        """The index of the first check behind which the fewest candidates remain in the worst case, or None."""
        need_checks(self.house, checks)
        worst = [self.most_behind(check) for check in checks]
        return worst.index(min(worst)) if worst else None

    def most_behind(self, check):
        """How many candidates remain behind the finding of a check that leaves the most."""
        counts = {}
        for cells in list(self.ends.values()):
            for look in apart_by(cells, view_of_check(self.house, check)):
                counts[look] = counts.get(look, 0) + 1
        return max(list(counts.values()))
