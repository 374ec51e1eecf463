"""Plans: the rows of a log as what they do to the place of each item.

A way of a row has, for each item, a tuple that gives to each code of a place the code behind the row,
or NOWHERE if the row cannot be with the item at this place. A row can be in a state by one of its
ways at the most, whatever the row and the state.
"""

from sealwatch.deeds import DEED_WORDS
from sealwatch.places import CODES, FIRST_BOX, GONE, code_of, codes_of, index_of

NOWHERE = -1
ANYWHERE = (0, 1, 2, 3, 4, 5, 6, 7)


class Step:
    """A row: the hands of a gap and no ways, or None and the ways of another row."""

    def __init__(self, hands, ways):
        self.hands = hands
        self.ways = ways


class Plan:
    """Rows for a house, from a state on."""

    def __init__(self, house, state, rows):
        self.house = house
        self.start = codes_of(state)
        self.boxes = len(house.boxes)
        self.solid = self.boxes + len(house.seals)
        self.size = len(self.start)
        self.steps = [step_of(house, row) for row in rows]


def plan_of(log):
    return Plan(log.house, log.house.state, log.rows)


def step_of(house, row):
    if row[0] == "gap":
        return Step(row[1], [])
    if row[0] in DEED_WORDS:
        return Step(None, deed_ways(house, row))
    return Step(None, sight_ways(house, row, True))


def moving(start, goal):
    """An item must be at a place, and goes to another one."""
    return tuple([goal if code == start else NOWHERE for code in range(CODES)])


def staying(code):
    """An item must be at a place."""
    return moving(code, code)


def missing(code):
    """An item must be elsewhere."""
    return tuple([NOWHERE if other == code else other for other in range(CODES)])


def way_of(house, told):
    """The way that tells something of some items: a list of tuples (item, codes)."""
    way = [ANYWHERE] * len(house.all_items)
    for item, codes in told:
        way[index_of(house, item)] = codes
    return tuple(way)


def unsealed(house, box):
    """No seal is on a box."""
    return [(("seal", seal), missing(FIRST_BOX + box)) for seal in range(len(house.seals))]


def deed_ways(house, deed):
    match deed:
        case ("give", hand, item, other):
            return [way_of(house, [(item, moving(hand, other))])]
        case ("put", hand, item, box):
            told = [(("box", box), staying(hand)), (item, moving(hand, FIRST_BOX + box))]
            return [way_of(house, unsealed(house, box) + told)]
        case ("take", hand, item, box):
            told = [(("box", box), staying(hand)), (item, moving(FIRST_BOX + box, hand))]
            return [way_of(house, unsealed(house, box) + told)]
        case ("seal", hand, box, seal):
            told = [(("box", box), staying(hand)), (("seal", seal), moving(hand, FIRST_BOX + box))]
            return [way_of(house, unsealed(house, box) + told)]
    return break_ways(house, deed[1], deed[2])


def break_ways(house, hand, box):
    """One way for each seal that can be on the box."""
    held = (("box", box), staying(hand))
    broken = moving(FIRST_BOX + box, GONE)
    return [way_of(house, [held, (("seal", seal), broken)]) for seal in range(len(house.seals))]


def sight_ways(house, sight, truth):
    """The ways in which a sight is true, or, if truth is False, those in which it is not."""
    match sight:
        case ("at", item, place):
            return [way_of(house, [(item, place_codes(place, truth))])]
        case ("gone", seal):
            return [way_of(house, [(("seal", seal), place_codes(("gone", 0), truth))])]
        case ("bare", box):
            if truth:
                return [way_of(house, unsealed(house, box))]
            sealed = staying(FIRST_BOX + box)
            return [way_of(house, [(("seal", number), sealed)]) for number in range(len(house.seals))]
        case ("in", box, items):
            return inside_ways(house, box, items, truth)
    return sight_ways(house, sight[1], not truth)


def place_codes(place, truth):
    code = code_of(place)
    return staying(code) if truth else missing(code)


def inside_ways(house, box, items, truth):
    """Ways of "in"; those in which it is not true differ in the first item that is not as told."""
    code = FIRST_BOX + box
    told = []
    ways = []
    for item in house.all_items:
        if item[0] != "seal":
            wanted = item in items
            wrong = missing(code) if wanted else staying(code)
            ways.append(way_of(house, told + [(item, wrong)]))
            told.append((item, staying(code) if wanted else missing(code)))
    if truth:
        return [way_of(house, told)]
    return ways


def codes_behind(codes, ways):
    """The codes behind a row, or None if it cannot be."""
    for way in ways:
        changed = tuple([places[code] for places, code in zip(way, codes)])
        if NOWHERE not in changed:
            return changed
    return None
