"""Leaving out: the fewest told rows without which some course fits."""

from sealwatch.cells import behind_step, first_cells, merged


class Leaving:
    """A plan of which some rows, given by their indexes, can be left out."""

    def __init__(self, plan, told):
        self.plan = plan
        self.told = told
        self.known = {}

    def cells_behind(self, row, cells):
        """The cells behind a row that is not left out."""
        key = (row, tuple(sorted(cells)))
        if key not in self.known:
            self.known[key] = behind_step(self.plan, self.plan.steps[row], cells, None)
        return self.known[key]

    def first_list(self):
        """The shortest list of indexes of rows to leave out, of several the first one in list order."""
        cells = first_cells(self.plan)
        left = 0
        while not self.can_end(0, cells, left):
            left += 1
        found = []
        for row in range(len(self.plan.steps)):
            # A list is the first one if each row is left out as soon as the rest can do with fewer.
            if left > 0 and row in self.told and self.can_end(row + 1, cells, left - 1):
                found.append(row)
                left -= 1
            else:
                cells = self.cells_behind(row, cells)
        return found

    def can_end(self, row, cells, left):
        """Whether what comes from a row on fits some state of cells if up to so many rows are left out."""
        levels = [cells] + [[] for _ in range(left)]
        for later in range(row, len(self.plan.steps)):
            levels = self.levels_behind(later, levels)
        return max([len(level) for level in levels]) > 0

    def levels_behind(self, row, levels):
        """The cells behind a row by the number of rows that are left out."""
        found = [self.cells_behind(row, cells) for cells in levels]
        if row in self.told:
            for left in range(1, len(levels)):
                found[left] = merged(self.plan, found[left] + levels[left - 1])
        return found
