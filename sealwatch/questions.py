"""What a log shows of its end."""

from sealwatch.cells import behind_ways, cells_along, codes_in
from sealwatch.errors import NoCourse
from sealwatch.known import need_item
from sealwatch.places import index_of, place_of
from sealwatch.plans import plan_of, sight_ways
from sealwatch.sights import need_sight


def possible_moments(log):
    """The cells at each moment of what is ahead of it; raises NoCourse if no course fits the whole log."""
    moments = cells_along(plan_of(log), None)
    if len(moments[-1]) == 0:
        raise NoCourse("no course fits the log")
    return moments


def possible_places(log, item):
    """All places where an item can be straight at the end, ascending."""
    need_item(log.house, item)
    return places_in(log.house, possible_moments(log)[-1], item)


def places_in(house, cells, item):
    """All places where an item is in some state of cells, ascending."""
    index = index_of(house, item)
    mask = 0
    for cell in cells:
        mask |= cell[index]
    return sorted([place_of(code) for code in codes_in(mask)])


def answer(log, sight):
    """Whether a sight is "always", "sometimes" or "never" true at the end."""
    need_sight(log.house, sight)
    return answer_in(log.house, possible_moments(log)[-1], sight)


def answer_in(house, cells, sight):
    """Whether a sight is "always", "sometimes" or "never" true of the states of cells."""
    if len(behind_ways(cells, sight_ways(house, sight, True))) == 0:
        return "never"
    if len(behind_ways(cells, sight_ways(house, sight, False))) == 0:
        return "always"
    return "sometimes"
