"""Joins: the rows of two or three logs put together in all orders."""

from sealwatch.cells import behind_step, first_cells
from sealwatch.errors import InvalidJoin, InvalidLogs, UnknownRow
from sealwatch.known import is_number
from sealwatch.logs import Log
from sealwatch.plans import plan_of

MOST_LOGS = 3
MOST_JOINED = 10


def joined(logs, join):
    """The log of all rows in the order of a join."""
    need_logs(logs)
    need_join(logs, join)
    taken = [0] * len(logs)
    rows = []
    for number in join:
        rows.append(logs[number][taken[number]])
        taken[number] += 1
    return Log(logs[0].house, rows)


def join_count(logs):
    """By how many joins some course fits the joined log."""
    need_logs(logs)
    return len(fitting_joins(logs))


def first_join(logs):
    """The least join by which some course fits the joined log, or None."""
    need_logs(logs)
    return min(fitting_joins(logs), default=None)


def surely_before(logs, one, other):
    """Whether a row stands before another one in all joins by which some course fits, or None."""
    need_logs(logs)
    need_row_of(logs, one)
    need_row_of(logs, other)
    if one == other:
        raise UnknownRow("a row does not stand before itself")
    joins = fitting_joins(logs)
    if len(joins) == 0:
        return None
    return all([place_of_row(join, one) < place_of_row(join, other) for join in joins])


def place_of_row(join, row):
    """The index that a row of a log has in a joined log."""
    log, index = row
    return [place for place, number in enumerate(join) if number == log][index]


def need_logs(logs):
    """Raise InvalidLogs for the first log that cannot be put together with those before it."""
    many = 0
    for index, log in enumerate(logs):
        many += len(log)
        if index == MOST_LOGS or log.house != logs[0].house or many > MOST_JOINED:
            raise InvalidLogs(index)
    if len(logs) < 2:
        raise InvalidLogs(len(logs))


def need_join(logs, join):
    """Raise InvalidJoin for the first number by which the join does not take all rows of all logs."""
    left = [len(log) for log in logs]
    for index, number in enumerate(join):
        if not is_number(number, len(logs)) or left[number] == 0:
            raise InvalidJoin(index)
        left[number] -= 1
    if sum(left) > 0:
        raise InvalidJoin(len(join))


def need_row_of(logs, row):
    log, index = row
    if not is_number(log, len(logs)) or not is_number(index, len(logs[log])):
        raise UnknownRow(f"there is no row {row}")


def fitting_joins(logs):
    """All joins by which some course fits the joined log, in ascending order."""
    plans = [plan_of(log) for log in logs]
    return Joining(plans).joins_from((0,) * len(plans), first_cells(plans[0]))


class Joining:
    """Plans of one house whose steps are taken in all orders."""

    def __init__(self, plans):
        self.plans = plans
        self.known = {}

    def joins_from(self, taken, cells):
        """The rest of all joins behind so many steps of each plan that fit some state of cells, ascending."""
        key = (taken, tuple(sorted(cells)))
        if key not in self.known:
            self.known[key] = self.found_from(taken, cells)
        return self.known[key]

    def found_from(self, taken, cells):
        if len(cells) == 0:
            return []
        found = []
        for number, plan in enumerate(self.plans):
            if taken[number] < len(plan.steps):
                changed = behind_step(plan, plan.steps[taken[number]], cells, None)
                later = taken[:number] + (taken[number] + 1,) + taken[number + 1:]
                found += [(number,) + rest for rest in self.joins_from(later, changed)]
        if sum(taken) == sum([len(plan.steps) for plan in self.plans]):
            return [()]
        return found
