"""Sets of states as lists of cells.

A cell has, for each item, a mask: the bits of all codes of places where it may be. It stands for all states
that take one of these places for each item, independently. Within a gap all places with unwatched hands
are alike, and the things do not hinder one another, so few cells tell of very many states.

The mask of a box or a seal, which are called solid here, has hands alone, or one other place alone.
"""

from sealwatch.gaps import Gap
from sealwatch.places import CODES, state_of
from sealwatch.plans import ANYWHERE, NOWHERE, Plan

ALL_HANDS = 15


def first_cells(plan):
    return [tuple([1 << code for code in plan.start])]


def with_item(cells, index, mask):
    """The states of cells in which an item is at one of the places of a mask."""
    found = []
    for cell in cells:
        if cell[index] & mask:
            found.append(cell[:index] + (cell[index] & mask,) + cell[index + 1:])
    return found


def behind_step(plan, step, cells, ban):
    """The states behind a row; a ban is None, or the index of an item and the mask of where it never is."""
    if step.hands is None:
        cells = behind_ways(cells, step.ways)
        if ban is not None:
            cells = with_item(cells, ban[0], ~ban[1])
        return merged(plan, cells)
    gap = Gap(plan, step.hands, ban)
    for cell in cells:
        gap.enter(cell)
    gap.run()
    return merged(plan, gap.all_cells())


def behind_ways(cells, ways):
    found = {}
    for cell in cells:
        for way in ways:
            changed = tuple([mask_behind(mask, codes) for mask, codes in zip(cell, way)])
            if 0 not in changed:
                found[changed] = True
    return list(found)


def mask_behind(mask, codes):
    if codes == ANYWHERE:
        return mask
    changed = 0
    for code in range(CODES):
        if mask >> code & 1 and codes[code] != NOWHERE:
            changed |= 1 << codes[code]
    return changed


def merged(plan, cells):
    """The same states in fewer cells: those that differ in one item alone become one."""
    return merged_up(cells, plan.size, plan.solid)


def merged_up(cells, size, solid):
    """As merged, for a number of items, of which so many, the first ones, are solid."""
    many = len(cells) + 1
    while 1 < len(cells) < many:
        many = len(cells)
        for index in range(size):
            cells = merged_at(cells, index, index < solid)
    return cells


def merged_at(cells, index, is_solid):
    groups = {}
    for cell in cells:
        mask = cell[index]
        kind = mask if is_solid and mask > ALL_HANDS else 0
        key = (cell[:index], kind, cell[index + 1:])
        groups[key] = groups.get(key, 0) | mask
    return [key[0] + (mask,) + key[2] for key, mask in groups.items()]


def cells_along(plan, ban):
    """The cells of the states at each moment that come about by what is ahead of it, up to the first moment without."""
    cells = first_cells(plan)
    if ban is not None:
        cells = with_item(cells, ban[0], ~ban[1])
    moments = [cells]
    for step in plan.steps:
        if len(cells) == 0:
            break
        cells = behind_step(plan, step, cells, ban)
        moments.append(cells)
    return moments


def last_cells(plan, ban):
    """The cells of the states at the end of all courses that fit, and keep to a ban."""
    return cells_along(plan, ban)[-1]


def some_course_fits(house, rows):
    """Whether some course fits a log of such rows."""
    return len(last_cells(Plan(house, house.state, rows), None)) > 0


def can_end(plan, moment, cells):
    """Whether what comes behind a moment fits some state of cells."""
    for step in plan.steps[moment:]:
        if len(cells) == 0:
            return False
        cells = behind_step(plan, step, cells, None)
    return len(cells) > 0


def codes_in(mask):
    return [code for code in range(CODES) if mask >> code & 1]


def states_of(house, cells):
    """All states of cells, each once, ascending."""
    found = {}
    for cell in cells:
        for codes in all_codes(cell):
            found[codes] = True
    return sorted([state_of(house, codes) for codes in found])


def all_codes(cell):
    """The codes of all states of a cell."""
    rows = [()]
    for mask in cell:
        places = codes_in(mask)
        rows = [row + (code,) for row in rows for code in places]
    return rows
