"""Views: what a check or a sight can tell apart.

A view has, for each item, a tuple that gives a mark to each code of a place. States that have the same
marks for all items look the same: a check has the same finding for all of them, a sight the same truth.
"""

from sealwatch.cells import mask_behind, merged_up
from sealwatch.places import CODES, FIRST_BOX, GONE, code_of, index_of

BLANK = (0, 0, 0, 0, 0, 0, 0, 0)
APART = (0, 1, 2, 3, 4, 5, 6, 7)


def mark_at(code):
    """The marks that tell one place from all others."""
    return tuple([1 if other == code else 0 for other in range(CODES)])


def view_of(house, items, marks):
    """The view of some items, all with the same marks."""
    view = [BLANK] * len(house.all_items)
    for item in items:
        view[index_of(house, item)] = marks
    return tuple(view)


def view_of_check(house, check):
    word, what = check
    if word == "where":
        return view_of(house, [what], APART)
    items = [item for item in house.all_items if (item[0] == "seal") == (word == "on")]
    return view_of(house, items, mark_at(FIRST_BOX + what))


def view_of_sight(house, sight):
    match sight:
        case ("at", item, place):
            return view_of(house, [item], mark_at(code_of(place)))
        case ("bare", box):
            return view_of_check(house, ("on", box))
        case ("in", box, _):
            return view_of_check(house, ("inside", box))
        case ("gone", seal):
            return view_of(house, [("seal", seal)], mark_at(GONE))
    return view_of_sight(house, sight[1])


def apart_by(cells, view):
    """The states of cells apart by how they look in a view: lists of cells by marks."""
    parts = {}
    for cell in cells:
        pieces = [((), ())]
        for mask, marks in zip(cell, view):
            split = split_by(mask, marks)
            pieces = [(look + (mark,), piece + (part,)) for look, piece in pieces for mark, part in split]
        for look, piece in pieces:
            parts.setdefault(look, []).append(piece)
    return parts


def split_by(mask, marks):
    """The parts of a mask with unlike marks: tuples (mark, part)."""
    if marks == BLANK:
        return [(0, mask)]
    parts = {}
    for code in range(CODES):
        if mask >> code & 1:
            parts[marks[code]] = parts.get(marks[code], 0) | 1 << code
    return list(parts.items())


def stand_ins(views):
    """For each item and each code the first code that looks the same in all views."""
    found = []
    for rows in zip(*views):
        looks = [tuple([marks[code] for marks in rows]) for code in range(CODES)]
        found.append(tuple([looks.index(look) for look in looks]))
    return found


def blurred(cells, codes):
    """The cells with stand-ins for all places, in which all of them are like things."""
    found = {}
    for cell in cells:
        found[tuple([mask_behind(mask, goals) for mask, goals in zip(cell, codes)])] = True
    return sorted(merged_up(list(found), len(codes), 0))


def have_common(cells, others):
    """Whether some state is in some cells and in some others."""
    known = {}
    for other in others:
        live = (1 << len(cells)) - 1
        for index, mask in enumerate(other):
            if (index, mask) not in known:
                known[(index, mask)] = cells_with(cells, index, mask)
            live &= known[(index, mask)]
        if live:
            return True
    return False


def cells_with(cells, index, mask):
    """The bits of all cells in which an item can be at a place of a mask."""
    return sum([1 << number for number, cell in enumerate(cells) if cell[index] & mask])
