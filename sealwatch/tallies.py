"""Tallies: how many states look alike, and the first of them.

Cells can have states in common, so the states are counted item by item: all that begin alike, and have the same
ends of cells to come, go on together.
"""

from sealwatch.places import CODES, place_of


def tally(house, cells, view):
    """For each look in a view its first state and the number of its states, in the order of these first states."""
    order = order_of_items(house)
    codes = codes_in_order()
    level = {((), tuple(in_order(cells, order))): ((), 1)}
    for index in order:
        level = next_level(level, view[index], codes)
    rows = sorted(list(level.values()))
    return [(state_at(house, ranks, codes), count) for ranks, count in rows]


def state_count(house, cells):
    """How many states there are in some cells."""
    blank = ((0,) * CODES,) * len(house.all_items)
    return sum([count for _, count in tally(house, cells, blank)])


def order_of_items(house):
    """The indexes of all items in the order in which a state has them: boxes, things, seals."""
    boxes = len(house.boxes)
    solid = boxes + len(house.seals)
    indexes = list(range(solid + len(house.things)))
    return indexes[:boxes] + indexes[solid:] + indexes[boxes:solid]


def codes_in_order():
    """All codes in the order of their places."""
    ordered = sorted([(place_of(code), code) for code in range(CODES)])
    return [code for _, code in ordered]


def in_order(cells, order):
    found = {}
    for cell in cells:
        found[tuple([cell[index] for index in order])] = True
    return sorted(list(found))


def next_level(level, marks, codes):
    """Go on by one item: the ranks of the first state's places and the count, by the look and the ends of cells."""
    found = {}
    for (look, ends), (ranks, count) in level.items():
        known = {}
        for rank, code in enumerate(codes):
            live = [end[0] >> code & 1 for end in ends]
            if 1 in live:
                bits = tuple(live)
                if bits not in known:
                    known[bits] = ends_behind(ends, code)
                key = (look + (marks[code],), known[bits])
                first, sum_of_counts = found.get(key, (ranks + (rank,), 0))
                found[key] = (min(first, ranks + (rank,)), sum_of_counts + count)
    return found


def ends_behind(ends, code):
    """The ends of cells behind an item at a place, each once."""
    found = {}
    for end in ends:
        if end[0] >> code & 1:
            found[end[1:]] = True
    return tuple(sorted(list(found)))


def state_at(house, ranks, codes):
    """The state with places of such ranks."""
    places = tuple([place_of(codes[rank]) for rank in ranks])
    boxes = len(house.boxes)
    loads = boxes + len(house.things)
    return (places[:boxes], places[boxes:loads], places[loads:])
