"""Likeness: states that differ only by numbers of which no row to come tells.

Two hands, boxes, seals or things are alike if exchanging them changes none of the rows to come. Then states
that differ by such an exchange have as many ways to go on, and one of them, their form, stands for them all.
"""

from sealwatch.places import CODES, FIRST_BOX, GONE


class Likeness:
    """What is alike, as classes of numbers for each word, and the forms of states by it."""

    def __init__(self, plan, classes):
        self.boxes = plan.boxes
        self.solid = plan.solid
        self.seal_classes = classes[2]
        self.thing_classes = classes[3]
        self.turns = turns_of(classes[0], classes[1])
        self.trivial = max([len(numbers) for group in classes for numbers in group]) == 1
        self.solids = {}
        self.turned = {}

    def form(self, codes):
        """The least codes that are alike."""
        if self.trivial:
            return codes
        solid, maps = self.solid_form(codes[:self.solid])
        things = codes[self.solid:]
        return solid + min([self.turned_things(things, places) for places in maps])

    def solid_form(self, solid):
        """The least boxes and seals that are alike, and all maps of places that lead to them."""
        if solid not in self.solids:
            turned = [(self.turned_solid(solid, places, boxes), places) for places, boxes in self.turns]
            least = min([form for form, _ in turned])
            self.solids[solid] = (least, [places for form, places in turned if form == least])
        return self.solids[solid]

    def turned_solid(self, solid, places, boxes):
        codes = [GONE] * self.boxes
        for box, goal in enumerate(boxes):
            codes[goal] = places[solid[box]]
        seals = [places[code] for code in solid[self.boxes:]]
        return tuple(codes) + in_order(seals, self.seal_classes)

    def turned_things(self, things, places):
        key = (things, places)
        if key not in self.turned:
            self.turned[key] = in_order([places[code] for code in things], self.thing_classes)
        return self.turned[key]


def in_order(codes, classes):
    """The codes with those of each class ascending."""
    found = list(codes)
    for numbers in classes:
        if len(numbers) > 1:
            for number, code in zip(numbers, sorted([codes[number] for number in numbers])):
                found[number] = code
    return tuple(found)


def turns_of(hand_classes, box_classes):
    """All exchanges of hands and boxes: tuples (codes of places by codes, numbers of boxes by numbers)."""
    turns = []
    for hands in orders_of(hand_classes):
        for boxes in orders_of(box_classes):
            places = list(range(CODES))
            places[:len(hands)] = hands
            places[FIRST_BOX:FIRST_BOX + len(boxes)] = [FIRST_BOX + box for box in boxes]
            turns.append((tuple(places), boxes))
    return turns


def orders_of(classes):
    """All ways to exchange numbers within their classes."""
    own = {}
    for numbers in classes:
        for number in numbers:
            own[number] = numbers
    orders = [()]
    for number in range(len(own)):
        orders = [order + (goal,) for order in orders for goal in own[number] if goal not in order]
    return orders


def classes_ahead(house, rows):
    """The classes of hands, boxes, seals and things that are alike for some rows."""
    told = [names_in(row) for row in rows]
    counts = (house.hands, len(house.boxes), len(house.seals), len(house.things))
    return tuple([classes_of(word, count, told) for word, count in zip(("hand", "box", "seal", "thing"), counts)])


def classes_of(word, count, told):
    classes = []
    for number in range(count):
        index = index_of_alike(word, number, classes, told)
        if index is None:
            classes.append((number,))
        else:
            classes[index] = classes[index] + (number,)
    return tuple(classes)


def index_of_alike(word, number, classes, told):
    """The index of the class to which a number belongs, or None if it is alike to none before it."""
    for index, numbers in enumerate(classes):
        if are_alike((word, number), (word, numbers[0]), told):
            return index
    return None


def are_alike(one, other, told):
    for names, loose in told:
        if one in names or other in names or (one in loose) != (other in loose):
            return False
    return True


def names_in(row):
    """All that a row names: what stands at its own place, and what stands in any order."""
    match row:
        case ("give", hand, item, other):
            return ((("hand", hand), item, ("hand", other)), ())
        case ("seal", hand, box, seal):
            return ((("hand", hand), ("box", box), ("seal", seal)), ())
        case ("break", hand, box):
            return ((("hand", hand), ("box", box)), ())
        case ("at", item, place):
            return ((item, place), ())
        case ("bare", box):
            return ((("box", box),), ())
        case ("in", box, items):
            return ((("box", box),), items)
        case ("gone", seal):
            return ((("seal", seal),), ())
        case ("not", sight):
            return names_in(sight)
        case ("gap", hands):
            return ((), tuple([("hand", number) for number in hands]))
    return ((("hand", row[1]), row[2], ("box", row[3])), ())
