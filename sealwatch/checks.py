"""Checks: what can be looked up in a state, and what it tells of a log."""

from sealwatch.errors import InvalidCheck
from sealwatch.inquiries import Inquiry
from sealwatch.known import is_number
from sealwatch.questions import possible_moments
from sealwatch.sights import need_sight
from sealwatch.states import loads_at, place_in, seal_on
from sealwatch.tallies import tally
from sealwatch.views import view_of_check

MOST_CHECKS = 8


def need_check(house, check, index):
    """Raise InvalidCheck with an index if the item or the box of a check does not exist."""
    word, what = check
    there = what in house if word == "where" else is_number(what, len(house.boxes))
    if not there:
        raise InvalidCheck(index)


def need_checks(house, checks):
    """Raise InvalidCheck for the first check that is wrong or one too many."""
    for index, check in enumerate(checks):
        if index == MOST_CHECKS:
            raise InvalidCheck(index)
        need_check(house, check, index)


def finding(world, check):
    """What the world's state has for a check: a place, the number of a seal or None, or a tuple of items."""
    need_check(world.house, check, 0)
    return finding_in(world.state, check)


def finding_in(state, check):
    word, what = check
    if word == "where":
        return place_in(state, what)
    if word == "on":
        return seal_on(state, what)
    return tuple(loads_at(state, ("box", what)))


def findings(log, check):
    """All findings at the end with the number of their states, in the order of the first state with each."""
    need_check(log.house, check, 0)
    rows = first_states(log.house, possible_moments(log)[-1], check)
    return [(finding_in(state, check), count) for state, count in rows]


def first_states(house, cells, check):
    """For each finding of a check the first state of cells that has it, and how many of them have it."""
    return tally(house, cells, view_of_check(house, check))


def sight_of(check, finding):
    """The sight that tells a finding of a check."""
    word, what = check
    if word == "where":
        return ("gone", what[1]) if finding == ("gone", 0) else ("at", what, finding)
    if word == "on":
        return ("bare", what) if finding is None else ("at", ("seal", finding), ("box", what))
    return ("in", what, finding)


def next_check(log, checks):
    """The index of the first check behind which the fewest states are left in the worst case, or None."""
    need_checks(log.house, checks)
    cells = possible_moments(log)[-1]
    worst = [max([count for _, count in first_states(log.house, cells, check)]) for check in checks]
    return worst.index(min(worst)) if worst else None


def fewest_checks(log, checks, sight):
    """How many checks have to be made in the worst case until a sight is known to be true or not, or None."""
    need_checks(log.house, checks)
    need_sight(log.house, sight)
    cells = possible_moments(log)[-1]
    return Inquiry(log.house, sight, checks).least_number(cells)
