"""Deeds: what can be wrong in them by themselves, and what they do to a state."""

from sealwatch.errors import InsideItself, IsSealed, NotHeld, NotInside, NotSealed, UnknownHand
from sealwatch.known import need_box, need_hand, need_item, need_load, need_seal
from sealwatch.states import place_in, seal_on, with_place

DEED_WORDS = ("give", "put", "take", "seal", "break")


def need_deed(house, deed):
    """Raise the first error of a deed that cannot be by itself, in whatever state."""
    need_hand(house, deed[1])
    match deed:
        case ("give", hand, item, other):
            need_item(house, item)
            need_hand(house, other)
            if hand == other:
                raise UnknownHand(f"hand {hand} gives to itself")
        case ("put", _, item, box):
            need_move(house, item, box)
        case ("take", _, item, box):
            need_move(house, item, box)
        case ("seal", _, box, seal):
            need_box(house, box)
            need_seal(house, seal)
        case ("break", _, box):
            need_box(house, box)


def need_move(house, item, box):
    need_load(house, item)
    need_box(house, box)
    if item == ("box", box):
        raise InsideItself(f"box {box} cannot be inside itself")


def state_behind(state, deed):
    """The state behind a deed that can be by itself; raises an error if it cannot be done."""
    match deed:
        case ("give", hand, item, other):
            need_held(state, hand, item)
            return with_place(state, item, ("hand", other))
        case ("put", hand, item, box):
            need_held(state, hand, item)
            need_bare(state, hand, box)
            return with_place(state, item, ("box", box))
        case ("take", hand, item, box):
            need_bare(state, hand, box)
            if place_in(state, item) != ("box", box):
                raise NotInside(f"{item} is not straight in box {box}")
            return with_place(state, item, ("hand", hand))
        case ("seal", hand, box, seal):
            need_held(state, hand, ("seal", seal))
            need_bare(state, hand, box)
            return with_place(state, ("seal", seal), ("box", box))
    return state_behind_break(state, deed[1], deed[2])


def state_behind_break(state, hand, box):
    need_held(state, hand, ("box", box))
    seal = seal_on(state, box)
    if seal is None:
        raise NotSealed(f"box {box} has no seal")
    return with_place(state, ("seal", seal), ("gone", 0))


def need_held(state, hand, item):
    if place_in(state, item) != ("hand", hand):
        raise NotHeld(f"hand {hand} does not hold {item}")


def need_bare(state, hand, box):
    """A box must be held straight before it matters whether it has a seal."""
    need_held(state, hand, ("box", box))
    if seal_on(state, box) is not None:
        raise IsSealed(f"box {box} has a seal")
