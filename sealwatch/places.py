"""Places and states as small numbers, for searching.

The code of a place is the number of a hand, 4 and the number of a box, or 7 for what is gone.
The codes of a state stand in the order of house.all_items: boxes, seals, things.
"""

FIRST_BOX = 4
GONE = 7
CODES = 8


def code_of(place):
    word, number = place
    if word == "hand":
        return number
    if word == "box":
        return FIRST_BOX + number
    return GONE


def place_of(code):
    if code < FIRST_BOX:
        return ("hand", code)
    if code < GONE:
        return ("box", code - FIRST_BOX)
    return ("gone", 0)


def index_of(house, item):
    """Where the code of an item stands among those of a state."""
    word, number = item
    if word == "box":
        return number
    if word == "seal":
        return len(house.boxes) + number
    return len(house.boxes) + len(house.seals) + number


def codes_of(state):
    boxes, things, seals = state
    return tuple([code_of(place) for place in boxes + seals + things])


def state_of(house, codes):
    places = tuple([place_of(code) for code in codes])
    boxes = len(house.boxes)
    solid = boxes + len(house.seals)
    return (places[:boxes], places[solid:], places[boxes:solid])
