"""What there is in a house, and the errors for what there is not."""

from sealwatch.errors import InvalidHands, UnknownBox, UnknownHand, UnknownItem, UnknownSeal


def is_number(value, limit):
    """Whether a value is an integer from 0 on below a limit; a boolean is none."""
    return isinstance(value, int) and not isinstance(value, bool) and 0 <= value < limit


def how_many(house, word):
    """How many items of a word there are in a house."""
    if word == "box":
        return len(house.boxes)
    if word == "seal":
        return len(house.seals)
    if word == "thing":
        return len(house.things)
    return 0


def need_hand(house, hand):
    if not is_number(hand, house.hands):
        raise UnknownHand(f"there is no hand {hand}")


def need_item(house, item):
    if item not in house:
        raise UnknownItem(f"there is no item {item}")


def need_load(house, item):
    """A load is a box or a thing: what can lie in a box."""
    if item not in house or item[0] == "seal":
        raise UnknownItem(f"there is no box or thing {item}")


def need_box(house, box):
    if not is_number(box, len(house.boxes)):
        raise UnknownBox(f"there is no box {box}")


def need_seal(house, seal):
    if not is_number(seal, len(house.seals)):
        raise UnknownSeal(f"there is no seal {seal}")


def need_place(house, place):
    word, number = place
    if word == "hand":
        need_hand(house, number)
    else:
        need_box(house, number)


def need_hands(house, hands):
    """Hands must exist and ascend, none twice."""
    for index, hand in enumerate(hands):
        if not is_number(hand, house.hands) or (index > 0 and hand <= hands[index - 1]):
            raise InvalidHands(index)
