"""Bounds: how many deeds with one item what is to come can need, if nothing else hinders it.

As each deed changes the place of just one item, the sum over all items bounds the secret deeds to come.
"""

from sealwatch.places import CODES, FIRST_BOX, GONE
from sealwatch.plans import NOWHERE

BIG = 1000000


def loose_goals(plan, index, hands, code):
    """Where one deed could bring an item from a place, if all boxes were at hand."""
    if code in hands:
        boxes = [FIRST_BOX + box for box in range(plan.boxes) if box != index]
        return [hand for hand in hands if hand != code] + boxes
    if FIRST_BOX <= code < FIRST_BOX + plan.boxes:
        if plan.boxes <= index < plan.solid:
            return [GONE]
        return list(hands)
    return []


def least_costs(plan):
    """For each row, each item and each code of a place the fewest deeds with this item from there to the end."""
    tables = [[(0,) * CODES] * plan.size]
    for step in plan.steps[::-1]:
        rows = []
        for index in range(plan.size):
            if step.hands is None:
                rows.append(costs_ahead(tables[-1][index], [way[index] for way in step.ways]))
            else:
                goals = [loose_goals(plan, index, step.hands, code) for code in range(CODES)]
                rows.append(costs_in_gap(tables[-1][index], goals))
        tables.append(rows)
    return tables[::-1]


def costs_ahead(costs, moves):
    return tuple([min([BIG] + [costs[codes[code]] for codes in moves if codes[code] != NOWHERE])
                  for code in range(CODES)])


def costs_in_gap(costs, goals):
    known = ()
    while known != costs:
        known = costs
        costs = tuple([min([known[code]] + [known[goal] + 1 for goal in goals[code]]) for code in range(CODES)])
    return costs


def length_sets(plan, most):
    """As least_costs, but masks of all numbers of deeds, up to most, that there can be with the item."""
    tables = [[(1,) * CODES] * plan.size]
    for step in plan.steps[::-1]:
        rows = []
        for index in range(plan.size):
            if step.hands is None:
                rows.append(lengths_ahead(tables[-1][index], [way[index] for way in step.ways]))
            else:
                goals = [loose_goals(plan, index, step.hands, code) for code in range(CODES)]
                rows.append(lengths_in_gap(tables[-1][index], goals, most))
        tables.append(rows)
    return tables[::-1]


def lengths_ahead(lengths, moves):
    found = []
    for code in range(CODES):
        mask = 0
        for codes in moves:
            if codes[code] != NOWHERE:
                mask |= lengths[codes[code]]
        found.append(mask)
    return tuple(found)


def lengths_in_gap(lengths, goals, most):
    ahead = lengths
    known = ()
    while known != lengths:
        known = lengths
        found = []
        for code in range(CODES):
            mask = ahead[code]
            for goal in goals[code]:
                mask |= known[goal] << 1
            found.append(mask & (2 << most) - 1)
        lengths = tuple(found)
    return lengths


def sum_of_lengths(one, other):
    """The mask of all sums of a number of one mask and a number of the other."""
    mask = 0
    while other:
        low = other & -other
        mask |= one * low
        other -= low
    return mask
