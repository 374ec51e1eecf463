"""Logs: what is told of a house, row by row, and whether it can have been so."""

from sealwatch.cells import cells_along, last_cells, states_of
from sealwatch.deeds import DEED_WORDS, need_deed
from sealwatch.errors import InvalidLog, WatchError
from sealwatch.known import need_hands
from sealwatch.plans import plan_of
from sealwatch.sights import need_sight

MOST_ROWS = 30


class Log:
    """Up to 30 rows for a house: deeds, sights and gaps."""

    def __init__(self, house, rows):
        need_rows(house, rows)
        self.house = house
        self.rows = tuple(rows)

    @property
    def gaps(self):
        return [index for index, row in enumerate(self.rows) if row[0] == "gap"]

    def __len__(self):
        return len(self.rows)

    def __getitem__(self, index):
        return self.rows[index]

    def __iter__(self):
        raise TypeError("a log cannot be iterated over, but its rows can")

    def __add__(self, rows):
        return Log(self.house, self.rows + tuple(rows))

    def __eq__(self, other):
        return isinstance(other, Log) and self.house == other.house and self.rows == other.rows

    def until(self, number):
        """The log of so many of the first rows."""
        return Log(self.house, self.rows[:max(number, 0)])

    def watched(self, hands):
        """The log in whose gaps only those of the hands are left that are among these."""
        need_hands(self.house, hands)
        rows = []
        for row in self.rows:
            if row[0] == "gap":
                row = ("gap", tuple([hand for hand in row[1] if hand in hands]))
            rows.append(row)
        return Log(self.house, rows)


def need_rows(house, rows):
    """Raise InvalidLog for the first row that cannot be by itself, or is one too many."""
    for index, row in enumerate(rows):
        if index == MOST_ROWS:
            raise InvalidLog(index)
        try:
            need_row(house, row)
        except WatchError:
            raise InvalidLog(index) from None


def need_row(house, row):
    if row[0] == "gap":
        need_hands(house, row[1])
    elif row[0] in DEED_WORDS:
        need_deed(house, row)
    else:
        need_sight(house, row)


def impossible_row(log):
    """The index of the row with which the log cannot have come about any more, or None."""
    moments = cells_along(plan_of(log), None)
    if len(moments[-1]) == 0:
        return len(moments) - 2
    return None


def final_states(log):
    """All states at the end of courses that fit, ascending."""
    return states_of(log.house, last_cells(plan_of(log), None))
