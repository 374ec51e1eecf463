"""How many courses have just so many secret deeds, and whether some course has."""

from sealwatch.bounds import length_sets, sum_of_lengths
from sealwatch.likeness import Likeness, classes_ahead
from sealwatch.moves import moves_of_solid, moves_of_things
from sealwatch.plans import codes_behind


class Counter:
    """The ways to go on from the forms of states, each of which has a number, with up to so many secret deeds.

    A ban is None, or the index of an item and the code of a place where it never is. The rows are those of the
    plan; there may be more of them, which only say what else is not alike.
    """

    def __init__(self, plan, rows, most, ban):
        self.plan = plan
        self.most = most
        self.ban = ban
        self.lengths = length_sets(plan, most)
        self.alike = likenesses(plan, rows)
        self.sums = {}
        self.forms = []
        self.numbers = {}
        self.rooms = [{} for _ in range(len(rows) + 1)]
        self.goals = [{} for _ in rows]
        self.behind = [{} for _ in rows]
        self.moves = {}
        self.known = {}

    def number_of(self, row, codes):
        """The number of the form of a state ahead of a row."""
        form = self.alike[row].form(codes)
        if form not in self.numbers:
            self.numbers[form] = len(self.forms)
            self.forms.append(form)
        return self.numbers[form]

    def has_room(self, row, number, left):
        """Whether the deeds with each item, if nothing hindered them, could be just so many in all."""
        if number not in self.rooms[row]:
            self.rooms[row][number] = self.room(row, self.forms[number])
        return self.rooms[row][number] >> left & 1 == 1

    def room(self, row, codes):
        total = 1
        for lengths, code in zip(self.lengths[row], codes):
            key = (total, lengths[code])
            if key not in self.sums:
                self.sums[key] = sum_of_lengths(total, lengths[code]) & (2 << self.most) - 1
            total = self.sums[key]
        return total

    def moves_from(self, row, codes):
        """The moves of secret deeds in the gap of a row: tuples (index of the item, its next code)."""
        plan = self.plan
        hands = plan.steps[row].hands
        solid = codes[:plan.solid]
        key = (hands, solid)
        if key not in self.moves:
            self.moves[key] = (moves_of_solid(plan, solid, hands), moves_of_things(plan, solid, hands))
        found, goals = self.moves[key]
        found = found + [(index, goal) for index in range(plan.solid, plan.size) for goal in goals[codes[index]]]
        return [move for move in found if move != self.ban]

    def goals_from(self, row, number):
        """The numbers behind one secret deed in the gap of a row, as often as there are such deeds."""
        if number not in self.goals[row]:
            codes = self.forms[number]
            self.goals[row][number] = [self.number_of(row, codes[:index] + (goal,) + codes[index + 1:])
                                       for index, goal in self.moves_from(row, codes)]
        return self.goals[row][number]

    def all_courses(self):
        """The number of courses with just as many secret deeds as there may be."""
        if self.is_banned(self.plan.start):
            return 0
        if self.most == 0:
            return 1 if self.can_rest(0, self.plan.start) else 0
        levels = [{} for _ in range(self.most)]
        levels[0][self.number_of(0, self.plan.start)] = 1
        total = 0
        for row, step in enumerate(self.plan.steps):
            if step.hands is not None:
                for used in range(self.most - 1):
                    self.count_deeds(row, used, levels)
                total += sum([count * self.last_deeds(row, number) for number, count in levels[-1].items()])
            levels = [self.counts_behind(row, used, level) for used, level in enumerate(levels)]
            # The goals of this row are not asked for again, and they are what takes most of the memory.
            self.goals[row] = {}
        return total

    def last_deeds(self, row, number):
        """How many secret deeds in the gap of a row can be the last one; the states behind them need no forms."""
        if not self.has_room(row, number, 1):
            return 0
        codes = self.forms[number]
        found = 0
        for index, goal in self.moves_from(row, codes):
            if self.can_rest(row + 1, codes[:index] + (goal,) + codes[index + 1:]):
                found += 1
        return found

    def can_rest(self, row, codes):
        """Whether what comes from a row on fits a state without any secret deeds."""
        for step in self.plan.steps[row:]:
            if step.hands is None:
                codes = codes_behind(codes, step.ways)
                if codes is None or self.is_banned(codes):
                    return False
        return True

    def count_deeds(self, row, used, levels):
        """Add what one more secret deed makes of the states behind so many."""
        counts = levels[used + 1]
        for number, count in levels[used].items():
            if self.has_room(row, number, self.most - used):
                for goal in self.goals_from(row, number):
                    counts[goal] = counts.get(goal, 0) + count

    def counts_behind(self, row, used, level):
        """The counts behind a row; behind a gap its states stay, with what is alike from then on."""
        counts = {}
        for number, count in level.items():
            behind = self.number_behind(row, number)
            if behind is not None and self.has_room(row + 1, behind, self.most - used):
                counts[behind] = counts.get(behind, 0) + count
        return counts

    def number_behind(self, row, number):
        """The number behind a row, or None if the row cannot be."""
        if number not in self.behind[row]:
            codes = self.forms[number]
            step = self.plan.steps[row]
            if step.hands is None:
                codes = codes_behind(codes, step.ways)
            is_lost = codes is None or self.is_banned(codes)
            self.behind[row][number] = None if is_lost else self.number_of(row + 1, codes)
        return self.behind[row][number]

    def is_banned(self, codes):
        return self.ban is not None and codes[self.ban[0]] == self.ban[1]

    def can_go_on(self, row, codes, left):
        """Whether there is a way from a state ahead of a row with just so many secret deeds."""
        return left >= 0 and self.has_way(row, self.number_of(row, codes), left)

    def has_way(self, row, number, left):
        key = (row, number, left)
        if key not in self.known:
            self.known[key] = self.has_room(row, number, left) and self.finds_way(row, number, left)
        return self.known[key]

    def finds_way(self, row, number, left):
        if row == len(self.plan.steps):
            return left == 0
        behind = self.number_behind(row, number)
        if behind is not None and self.has_way(row + 1, behind, left):
            return True
        if self.plan.steps[row].hands is None or left == 0:
            return False
        for goal in self.goals_from(row, number):
            if self.has_way(row, goal, left - 1):
                return True
        return False


def likenesses(plan, rows):
    """The likeness ahead of each row, and behind all of them."""
    made = {}
    found = []
    for index in range(len(rows) + 1):
        classes = classes_ahead(plan.house, rows[index:])
        if classes not in made:
            made[classes] = Likeness(plan, classes)
        found.append(made[classes])
    return found
