"""Plain searches for teams, ways, checks, tellers, joins and rounds, to compare with; see plain.py."""

import itertools

from sealwatch.errors import WatchError

FAR = 10 ** 9


def all_subsets(numbers):
    """All ascending tuples of numbers, shorter ones first."""
    for size in range(len(numbers) + 1):
        yield from itertools.combinations(numbers, size)


def least_sets(sets):
    return sorted(one for one in sets if not any(set(other) < set(one) for other in sets))


def watched(rows, team):
    return [("gap", tuple(hand for hand in row[1] if hand in team)) if row[0] == "gap" else row for row in rows]


def fits(plain, rows):
    return bool(plain.states(rows)[-1])


def teams(plain, rows):
    sets = all_subsets(range(plain.house.hands))
    return least_sets([team for team in sets if fits(plain, watched(rows, team))])


def way(plain, start, hands, is_goal):
    """The least of the shortest lists of deeds to a goal, or None."""
    level = {start: []}
    seen = {start}
    while level:
        goals = [deeds for state, deeds in level.items() if is_goal(state)]
        if goals:
            return min(goals)
        behind = {}
        for state, deeds in level.items():
            for deed, goal in plain.moves(state, hands):
                if goal not in seen:
                    behind[goal] = min(behind.get(goal, deeds + [deed]), deeds + [deed])
        seen |= set(behind)
        level = behind
    return None


def reached(plain, states, hands):
    found = set(states)
    waiting = list(found)
    while waiting:
        for _, state in plain.moves(waiting.pop(), hands):
            if state not in found:
                found.add(state)
                waiting.append(state)
    return sorted(found)


def find(plain, state, check):
    world = plain.world.changed(state)
    word, what = check
    if word == "where":
        return world.where(what)
    return world.seal(what) if word == "on" else tuple(world.inside(what))


def is_so(plain, state, sight):
    return plain.world.changed(state).is_so(sight)


def parts(plain, states, check):
    """The states by findings, in the order of the first state with each."""
    found = {}
    for state in states:
        found.setdefault(find(plain, state, check), []).append(state)
    return found


def fewest(plain, states, checks, sight):
    """How many checks are needed to know about a sight; FAR if they are not enough."""
    if len({is_so(plain, state, sight) for state in states}) < 2:
        return 0
    found = [FAR]
    for index, check in enumerate(checks):
        rest = checks[:index] + checks[index + 1:]
        groups = list(parts(plain, states, check).values())
        if len(groups) > 1:
            found.append(1 + max(fewest(plain, group, rest, sight) for group in groups))
    return min(FAR, min(found))


def without(rows, tellers, team):
    return [row for row, teller in zip(rows, tellers) if teller is None or teller not in team]


def lying(plain, rows, tellers):
    sets = all_subsets(range(plain.house.hands))
    return least_sets([team for team in sets if fits(plain, without(rows, tellers, team))])


def left_out(plain, rows, tellers):
    told = [index for index, teller in enumerate(tellers) if teller is not None]
    for indexes in all_subsets(told):
        if fits(plain, [row for index, row in enumerate(rows) if index not in indexes]):
            return list(indexes)
    return None


def all_joins(parts_of_rows):
    numbers = [number for number, rows in enumerate(parts_of_rows) for _ in rows]
    return sorted(set(itertools.permutations(numbers)))


def in_turn(parts_of_rows, join):
    """The rows in the order of a join, and where each one of each part stands."""
    places = {}
    rows = []
    for place, number in enumerate(join):
        index = join[:place].count(number)
        rows.append(parts_of_rows[number][index])
        places[number, index] = place
    return rows, places


def done(plain, state, deeds, count):
    """The states behind whole rounds, and where they stop: (state, stop)."""
    states = []
    for number in range(count):
        for index, deed in enumerate(deeds):
            try:
                state = plain.world.changed(state)(deed).state
            except WatchError:
                return states, (state, (number, index))
        states.append(state)
    return states, (state, None)
