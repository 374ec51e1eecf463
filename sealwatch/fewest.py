"""The fewest secret deeds behind a log, and the least course with so few.

A node is (row, solid): the index of the row that comes next, and the codes of the boxes and seals. The
things do not hinder one another, so a label tells, for one way of the boxes and seals, the cost of all
places of the things at once: a number of deeds, and for each thing a table of further deeds by codes.

First labels grow from the beginning on, those that promise the least first, until the least cost is known.
Then labels grow back from the ends, only where they belong to a course with this cost. They tell exactly
what is still to be paid wherever the least course comes by.
"""

from sealwatch.bounds import BIG, least_costs
from sealwatch.moves import deed_of, free_boxes, moves_from, moves_of_solid
from sealwatch.places import CODES
from sealwatch.plans import NOWHERE, codes_behind


class Search:
    """A search for the fewest secret deeds of a plan that some course fits."""

    def __init__(self, plan):
        self.plan = plan
        self.least = least_costs(plan)
        self.ahead = {}
        self.back = {}
        self.arcs = {}
        self.layouts = {}
        self.best = BIG

    def layout(self, node):
        """For a node in a gap the unwatched hands with the boxes in their reach; empty outside of gaps."""
        if node not in self.layouts:
            row, solid = node
            hands = ()
            if row < len(self.plan.steps) and self.plan.steps[row].hands is not None:
                hands = self.plan.steps[row].hands
            self.layouts[node] = [(hand, free_boxes(self.plan, solid, hand)) for hand in hands]
        return self.layouts[node]

    def settled(self, node, tables):
        """The tables with all that can be done with the things at a node."""
        layout = self.layout(node)
        return tuple([settled_costs(costs, layout) for costs in tables])

    def arcs_from(self, node):
        """The arcs from a node: tuples (node, deeds, way); a way is None or that of a row."""
        row, solid = node
        if row == len(self.plan.steps):
            return []
        step = self.plan.steps[row]
        if step.hands is None:
            return self.arcs_of_ways(node, step.ways)
        arcs = [((row + 1, solid), 0, None)]
        for index, goal in moves_of_solid(self.plan, solid, step.hands):
            arcs.append(((row, solid[:index] + (goal,) + solid[index + 1:]), 1, None))
        return arcs

    def arcs_of_ways(self, node, ways):
        row, solid = node
        arcs = []
        for way in ways:
            changed = tuple([codes[code] for codes, code in zip(way, solid)])
            if NOWHERE not in changed:
                arcs.append(((row + 1, changed), 0, way[self.plan.solid:]))
        return arcs

    def promise(self, node, label):
        """A bound for the secret deeds of all courses that a label stands for."""
        row, solid = node
        least = self.least[row]
        cost = label[0] + sum([costs[code] for costs, code in zip(least, solid)])
        return cost + gap_between(label[1], least[self.plan.solid:])

    def grow_ahead(self):
        """Grow all labels from the beginning that promise no more than the least cost."""
        start = (0, self.plan.start[:self.plan.solid])
        tables = [tuple([0 if code == place else BIG for code in range(CODES)])
                  for place in self.plan.start[self.plan.solid:]]
        label = (0, self.settled(start, tables))
        self.ahead[start] = [label]
        queues = {self.promise(start, label): [(start, label)]}
        cost = min(list(queues))
        while cost <= self.best:
            queue = queues.pop(cost, [])
            for node, label in queue:
                if label in self.ahead[node]:
                    self.grow_label(node, label, cost, queues)
            if cost not in queues:
                cost += 1

    def grow_label(self, node, label, cost, queues):
        if node[0] == len(self.plan.steps):
            self.best = cost
        if node not in self.arcs:
            self.arcs[node] = self.arcs_from(node)
        for goal, deeds, way in self.arcs[node]:
            tables = label[1] if way is None else tables_behind(label[1], way)
            other = (label[0] + deeds, self.settled(goal, tables))
            promise = max(self.promise(goal, other), cost)
            if promise < BIG and promise <= self.best and add_label(self.ahead, goal, other):
                queues.setdefault(promise, []).append((goal, other))

    def grow_back(self):
        """Grow all labels from the ends that belong to a course of the least cost."""
        before = {}
        for node, arcs in self.arcs.items():
            for goal, deeds, way in arcs:
                before.setdefault(goal, []).append((node, deeds, way))
        label = (0, ((0,) * CODES,) * (self.plan.size - self.plan.solid))
        queue = []
        for node in self.ahead:
            if node[0] == len(self.plan.steps) and self.is_best(node, label):
                self.back[node] = [label]
                queue.append((node, label))
        while queue:
            node, label = queue.pop()
            if label in self.back[node]:
                for goal, deeds, way in before.get(node, []):
                    tables = label[1] if way is None else tables_ahead(label[1], way)
                    other = (label[0] + deeds, self.settled(goal, tables))
                    if self.is_best(goal, other) and add_label(self.back, goal, other):
                        queue.append((goal, other))

    def is_best(self, node, label):
        """Whether a label from the ends meets one from the beginning at the least cost."""
        for cost, tables in self.ahead[node]:
            if cost + label[0] + gap_between(tables, label[1]) <= self.best:
                return True
        return False

    def cost_from(self, row, codes):
        """The fewest secret deeds from a state on, exact where the least course comes by."""
        node = (row, codes[:self.plan.solid])
        things = codes[self.plan.solid:]
        costs = [BIG]
        for cost, tables in self.back.get(node, []):
            costs.append(cost + sum([table[code] for table, code in zip(tables, things)]))
        return min(costs)

    def least_course(self):
        """The least course of the least cost: in each gap it goes on as soon as it can."""
        codes = self.plan.start
        left = self.best
        course = []
        for row, step in enumerate(self.plan.steps):
            if step.hands is None:
                codes = codes_behind(codes, step.ways)
                continue
            deeds = []
            while self.cost_from(row + 1, codes) > left:
                left -= 1
                deed, codes = self.least_deed(row, codes, left)
                deeds.append(deed)
            course.append(deeds)
        return course

    def least_deed(self, row, codes, left):
        """The least deed behind which no more than so many are needed, and the codes behind it."""
        found = []
        for index, goal in moves_from(self.plan, codes, self.plan.steps[row].hands):
            changed = codes[:index] + (goal,) + codes[index + 1:]
            if self.cost_from(row, changed) <= left:
                found.append((deed_of(self.plan, codes, index, goal), changed))
        return min(found)


def settled_costs(costs, layout):
    """The costs of a thing at all places, if the hands of a layout may give, put and take it."""
    if len(layout) == 0:
        return costs
    found = list(costs)
    for hand, boxes in layout:
        found[hand] = min([costs[hand]] + [costs[box] + 1 for box in boxes])
    near = min([found[hand] for hand, _ in layout]) + 1
    for hand, boxes in layout:
        found[hand] = min(found[hand], near)
        for box in boxes:
            found[box] = min(found[box], found[hand] + 1)
    return tuple(found)


def tables_behind(tables, way):
    """The tables of what has been paid, behind a row."""
    found = []
    for costs, codes in zip(tables, way):
        changed = [BIG] * CODES
        for code in range(CODES):
            if codes[code] != NOWHERE:
                changed[codes[code]] = min(changed[codes[code]], costs[code])
        found.append(tuple(changed))
    return tuple(found)


def tables_ahead(tables, way):
    """The tables of what is to be paid, ahead of a row."""
    return tuple([tuple([BIG if code == NOWHERE else costs[code] for code in codes])
                  for costs, codes in zip(tables, way)])


def gap_between(tables, others):
    """The least sum of two costs of the same place, over all things."""
    return sum([min([one + other for one, other in zip(costs, more)]) for costs, more in zip(tables, others)])


def add_label(labels, node, label):
    """Note a label at a node unless another one is nowhere dearer, and drop those that are nowhere cheaper."""
    known = labels.get(node, [])
    for other in known:
        if is_cheaper(other, label):
            return False
    labels[node] = [other for other in known if not is_cheaper(label, other)] + [label]
    return True


def is_cheaper(label, other):
    """Whether a label is nowhere dearer than another one."""
    more = label[0] - other[0]
    for costs, others in zip(label[1], other[1]):
        more += max([one - two for one, two in zip(costs, others) if two < BIG], default=0)
    return more <= 0
