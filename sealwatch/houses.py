"""Houses: how many hands there are, and where all items are at the beginning."""

from sealwatch.errors import InvalidHouse
from sealwatch.known import how_many, is_number

MOST_HANDS = 4
MOST_BOXES = 3
MOST_THINGS = 4
MOST_SEALS = 3


class House:
    """A house: its hands, and the places of its boxes, things and seals at the beginning."""

    def __init__(self, hands, boxes, things, seals):
        need_house(hands, boxes, things, seals)
        self.hands = hands
        self.boxes = tuple(boxes)
        self.things = tuple(things)
        self.seals = tuple(seals)
        self.state = (self.boxes, self.things, self.seals)

    @property
    def all_items(self):
        boxes = [("box", number) for number in range(len(self.boxes))]
        seals = [("seal", number) for number in range(len(self.seals))]
        things = [("thing", number) for number in range(len(self.things))]
        return boxes + seals + things

    def __contains__(self, item):
        return isinstance(item, tuple) and len(item) == 2 and is_number(item[1], how_many(self, item[0]))

    def __eq__(self, other):
        return isinstance(other, House) and self.hands == other.hands and self.state == other.state


def need_house(hands, boxes, things, seals):
    """Raise InvalidHouse for the first part and index that is wrong."""
    if not is_number(hands, MOST_HANDS + 1) or hands == 0:
        raise InvalidHouse("hands", 0)
    need_boxes(hands, boxes)
    for index, place in enumerate(things):
        if index == MOST_THINGS or not is_place(place, hands, len(boxes)):
            raise InvalidHouse("things", index)
    for index, place in enumerate(seals):
        if index == MOST_SEALS or not is_place(place, hands, len(boxes)):
            raise InvalidHouse("seals", index)
        if place[0] == "box" and place in seals[:index]:
            raise InvalidHouse("seals", index)


def need_boxes(hands, boxes):
    """There is a box, and each one is with a hand or in a box with a lesser number."""
    if len(boxes) == 0:
        raise InvalidHouse("boxes", 0)
    for index, place in enumerate(boxes):
        if index == MOST_BOXES or not is_place(place, hands, index):
            raise InvalidHouse("boxes", index)


def is_place(place, hands, boxes):
    """Whether a place is with one of so many hands, or in one of so many boxes."""
    word, number = place
    if word == "hand":
        return is_number(number, hands)
    return word == "box" and is_number(number, boxes)
