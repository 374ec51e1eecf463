"""A plain search through all states one by one, to compare with, and houses and logs to try."""

from sealwatch.errors import WatchError
from sealwatch.houses import House
from sealwatch.worlds import World

DEEDS = ("give", "put", "take", "seal", "break")
FAR = 10 ** 9


def all_deeds(house):
    found = []
    for hand in range(house.hands):
        for item in house.all_items:
            found += [("give", hand, item, other) for other in range(house.hands) if other != hand]
            if item[0] != "seal":
                boxes = [box for box in range(len(house.boxes)) if item != ("box", box)]
                found += [(word, hand, item, box) for box in boxes for word in ("put", "take")]
        for box in range(len(house.boxes)):
            found += [("seal", hand, box, seal) for seal in range(len(house.seals))]
            found.append(("break", hand, box))
    return sorted(found)


class Plain:
    """All that can be told of rows for a house, by going through all states and courses."""

    def __init__(self, house):
        self.house = house
        self.world = World(house)
        self.deeds = all_deeds(house)
        self.known = {}

    def moves(self, state, hands):
        """All secret deeds in a state, ascending, with the states behind them."""
        if (state, hands) not in self.known:
            world = self.world.changed(state)
            found = []
            for deed in self.deeds:
                if deed[1] in hands and (deed[0] != "give" or deed[3] in hands):
                    try:
                        found.append((deed, world(deed).state))
                    except WatchError:
                        pass
            self.known[state, hands] = found
        return self.known[state, hands]

    def behind(self, state, row):
        """The state behind a row that is no gap, or None."""
        world = self.world.changed(state)
        if row[0] in DEEDS:
            try:
                return world(row).state
            except WatchError:
                return None
        return state if world.is_so(row) else None

    def is_at(self, state, item, place):
        return self.world.changed(state).where(item) == place

    def states(self, rows, allows=lambda state: True):
        """The sets of states at each moment, by what is ahead of it."""
        now = {state for state in [self.house.state] if allows(state)}
        moments = [now]
        for row in rows:
            if row[0] == "gap":
                now = set(now)
                waiting = list(now)
                while waiting:
                    for _, state in self.moves(waiting.pop(), row[1]):
                        if state not in now and allows(state):
                            now.add(state)
                            waiting.append(state)
            else:
                now = {self.behind(state, row) for state in now} - {None}
                now = {state for state in now if allows(state)}
            moments.append(now)
        return moments

    def costs(self, rows):
        """For each moment the fewest secret deeds to the end from the states from which some course fits."""
        moments = self.states(rows)
        later = {state: 0 for state in moments[-1]}
        layers = [later]
        for index in reversed(range(len(rows))):
            if rows[index][0] == "gap":
                later = self.costs_in_gap(rows[index][1], moments[index + 1], later)
            else:
                behind = {state: self.behind(state, rows[index]) for state in moments[index]}
                later = {state: later[goal] for state, goal in behind.items() if goal in later}
            layers.append(later)
        return layers[::-1]

    def costs_in_gap(self, hands, states, later):
        found = dict(later)
        sources = {}
        for state in states:
            for _, goal in self.moves(state, hands):
                sources.setdefault(goal, []).append(state)
        cost = 0
        while any(worth >= cost for worth in found.values()):
            for goal in [goal for goal, worth in found.items() if worth == cost]:
                for state in sources.get(goal, ()):
                    if found.get(state, FAR) > cost + 1:
                        found[state] = cost + 1
            cost += 1
        return found

    def fewest(self, rows):
        """The fewest deeds and the least course, or None."""
        layers = self.costs(rows)
        if self.house.state not in layers[0]:
            return None
        best = left = layers[0][self.house.state]
        state = self.house.state
        course = []
        for index, row in enumerate(rows):
            if row[0] != "gap":
                state = self.behind(state, row)
                continue
            deeds = []
            while layers[index + 1].get(state, FAR) > left:
                left -= 1
                deed, state = next(pair for pair in self.moves(state, row[1]) if layers[index].get(pair[1], FAR) <= left)
                deeds.append(deed)
            course.append(deeds)
        return (best, course)

    def held_moments(self, rows, item, hand):
        """All moments at which a hand can hold an item."""
        moments = self.states(rows)
        layers = self.costs(rows)
        found = []
        for moment, states in enumerate(moments):
            in_gap = moment > 0 and rows[moment - 1][0] == "gap"
            layer = layers[moment - 1 if in_gap else moment]
            if any(state in layer and self.is_at(state, item, ("hand", hand)) for state in states):
                found.append(moment)
        return found

    def touch_words(self, rows, item):
        words = []
        for hand in range(self.house.hands):
            if not self.states(rows, lambda state: not self.is_at(state, item, ("hand", hand)))[-1]:
                words.append("surely")
            else:
                words.append("perhaps" if self.held_moments(rows, item, hand) else "never")
        return words

    def courses(self, rows, number, state=None):
        """All courses with just so many secret deeds, ascending."""
        state = self.house.state if state is None else state
        if not rows:
            return [[]] if number == 0 else []
        row = rows[0]
        if row[0] != "gap":
            behind = self.behind(state, row)
            return [] if behind is None else self.courses(rows[1:], number, behind)
        found = [[[]] + rest for rest in self.courses(rows[1:], number, state)]
        if number > 0:
            for deed, behind in self.moves(state, row[1]):
                for rest in self.courses(rows, number - 1, behind):
                    found.append([[deed] + rest[0]] + rest[1:])
        return found

    def counts(self, rows, most):
        """How many courses there are with 0, 1 .. secret deeds."""
        levels = [{} for _ in range(most + 1)]
        levels[0][self.house.state] = 1
        for row in rows:
            if row[0] == "gap":
                for used in range(most):
                    for state, count in levels[used].items():
                        for _, goal in self.moves(state, row[1]):
                            levels[used + 1][goal] = levels[used + 1].get(goal, 0) + count
            else:
                levels = [self.counts_behind(row, level) for level in levels]
        return [sum(level.values()) for level in levels]

    def counts_behind(self, row, level):
        found = {}
        for state, count in level.items():
            goal = self.behind(state, row)
            if goal is not None:
                found[goal] = found.get(goal, 0) + count
        return found


def some_place(chance, hands, boxes):
    if boxes == 0 or chance.random() < 0.5:
        return ("hand", chance.randrange(hands))
    return ("box", chance.randrange(boxes))


def some_house(chance, most):
    """A house with up to so many hands, boxes, things and seals."""
    hands = chance.randint(1, most[0])
    boxes = tuple(some_place(chance, hands, box) for box in range(chance.randint(1, most[1])))
    things = tuple(some_place(chance, hands, len(boxes)) for _ in range(chance.randint(0, most[2])))
    seals = []
    for _ in range(chance.randint(0, most[3])):
        place = some_place(chance, hands, len(boxes))
        seals.append(("hand", 0) if place[0] == "box" and place in seals else place)
    return House(hands, boxes, things, tuple(seals))


def some_sight(chance, house):
    kind = chance.randrange(8)
    if kind < 2:
        sight = some_sight(chance, house)
        return sight if sight[0] == "not" else ("not", sight)
    if kind < 5:
        return ("at", chance.choice(house.all_items), some_place(chance, house.hands, len(house.boxes)))
    if kind == 5:
        return ("bare", chance.randrange(len(house.boxes)))
    if kind == 6 and house.seals:
        return ("gone", chance.randrange(len(house.seals)))
    loads = [item for item in house.all_items if item[0] != "seal" and chance.random() < 0.4]
    return ("in", chance.randrange(len(house.boxes)), tuple(loads))


def some_check(chance, house):
    word = chance.choice(("where", "where", "on", "inside"))
    if word == "where":
        return (word, chance.choice(house.all_items))
    return (word, chance.randrange(len(house.boxes)))


def some_checks(chance, house, most):
    return [some_check(chance, house) for _ in range(chance.randint(0, most))]


def some_rows(chance, plain, many):
    """Rows of a log that some course mostly fits."""
    house = plain.house
    state = house.state
    rows = []
    for _ in range(many):
        kind = chance.random()
        if kind < 0.4:
            hands = tuple(hand for hand in range(house.hands) if chance.random() < 0.65)
            rows.append(("gap", hands))
            for _ in range(chance.randint(0, 6)):
                moves = plain.moves(state, hands)
                state = chance.choice(moves)[1] if moves else state
        elif kind < 0.55:
            moves = plain.moves(state, tuple(range(house.hands)))
            if moves:
                deed, state = chance.choice(moves)
                rows.append(deed)
        else:
            sights = [some_sight(chance, house) for _ in range(8)]
            true = [sight for sight in sights if plain.world.changed(state).is_so(sight)]
            rows.append(true[0] if true and chance.random() < 0.95 else sights[0])
    return rows
