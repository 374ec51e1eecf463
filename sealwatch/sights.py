"""Sights: what does not exist in them, and whether they are true of a state."""

from sealwatch.errors import UnknownItem
from sealwatch.known import need_box, need_item, need_load, need_place, need_seal
from sealwatch.states import loads_at, place_in, seal_on


def need_sight(house, sight):
    """Raise the error for the first part of a sight that does not exist, from left to right."""
    match sight:
        case ("at", item, place):
            need_item(house, item)
            need_place(house, place)
        case ("bare", box):
            need_box(house, box)
        case ("in", box, items):
            need_box(house, box)
            need_loads(house, items)
        case ("gone", seal):
            need_seal(house, seal)
        case ("not", other):
            need_sight(house, other)


def need_loads(house, items):
    """Boxes and things must exist and ascend, none twice."""
    for index, item in enumerate(items):
        need_load(house, item)
        if index > 0 and item <= items[index - 1]:
            raise UnknownItem(f"{item} does not ascend")


def is_true(state, sight):
    """Whether a sight of what exists is true of a state."""
    match sight:
        case ("at", item, place):
            return place_in(state, item) == place
        case ("bare", box):
            return seal_on(state, box) is None
        case ("in", box, items):
            return tuple(loads_at(state, ("box", box))) == tuple(items)
        case ("gone", seal):
            return place_in(state, ("seal", seal)) == ("gone", 0)
    return not is_true(state, sight[1])
