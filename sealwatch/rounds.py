"""Rounds: deeds that are done again and again from a world on."""

from sealwatch.deeds import need_deed, state_behind
from sealwatch.errors import InvalidNumber, InvalidRound, WatchError
from sealwatch.known import is_number
from sealwatch.sights import is_true, need_sight

MOST_DEEDS = 12
MOST_ROUNDS = 10 ** 18


def rounds(world, deeds, count):
    """The state behind so many rounds and None, or the state ahead of the deed that cannot be done, and its place."""
    need_round(world.house, deeds)
    need_count(count)
    return Trace(world.state, deeds, count).end(count)


def true_rounds(world, deeds, sight, count):
    """Behind how many of the first so many rounds a sight is true."""
    need_round(world.house, deeds)
    need_sight(world.house, sight)
    need_count(count)
    return Trace(world.state, deeds, count).how_often(sight, count)


def first_round(world, deeds, sight):
    """Behind how many rounds a sight is true first, or None."""
    need_round(world.house, deeds)
    need_sight(world.house, sight)
    for number, state in enumerate(Trace(world.state, deeds, MOST_ROUNDS).states):
        if is_true(state, sight):
            return number
    return None


def need_round(house, deeds):
    """Raise InvalidRound for the first deed that cannot be by itself or is one too many, or if there is none."""
    for index, deed in enumerate(deeds):
        if index == MOST_DEEDS:
            raise InvalidRound(index)
        try:
            need_deed(house, deed)
        except WatchError:
            raise InvalidRound(index) from None
    if len(deeds) == 0:
        raise InvalidRound(0)


def need_count(count):
    if not is_number(count, MOST_ROUNDS + 1):
        raise InvalidNumber(f"a number of rounds is from 0 to {MOST_ROUNDS}")


class Trace:
    """The states behind 0, 1 .. rounds, up to so many, to one that is not done whole, or until a state comes again."""

    def __init__(self, state, deeds, count):
        self.states = [state]
        self.stop = None
        self.again = None
        numbers = {state: 0}
        while self.stop is None and self.again is None and len(self.states) <= count:
            state, index = state_behind_all(state, deeds)
            if index is not None:
                self.stop = (state, (len(self.states) - 1, index))
            elif state in numbers:
                self.again = numbers[state]
            else:
                numbers[state] = len(self.states)
                self.states.append(state)

    def end(self, count):
        """The state behind so many rounds and None, or where they stop."""
        if self.stop is not None:
            return self.stop
        if self.again is not None and count >= len(self.states):
            count = self.again + (count - self.again) % (len(self.states) - self.again)
        return (self.states[count], None)

    def how_often(self, sight, count):
        """Behind how many of so many rounds a sight is true."""
        truths = [1 if is_true(state, sight) else 0 for state in self.states]
        found = sum(truths[1:])
        if self.again is not None:
            circle = truths[self.again:]
            many, rest = divmod(count + 1 - len(self.states), len(circle))
            found += many * sum(circle) + sum(circle[:rest])
        return found


def state_behind_all(state, deeds):
    """The state behind all deeds and None, or the state ahead of the first that cannot be done, and its index."""
    for index, deed in enumerate(deeds):
        try:
            state = state_behind(state, deed)
        except WatchError:
            return (state, index)
    return (state, None)
