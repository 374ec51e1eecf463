"""The deeds that unwatched hands can do in a state, as codes of places.

Each deed changes the place of just one item. Which deeds there are depends on the boxes and seals alone,
which are called solid here: what a thing can do does not depend on other things.
"""

from sealwatch.places import CODES, FIRST_BOX, GONE


def free_boxes(plan, solid, hand):
    """The codes of the boxes that a hand holds straight, without a seal."""
    seals = solid[plan.boxes:]
    return [FIRST_BOX + box for box in range(plan.boxes)
            if solid[box] == hand and FIRST_BOX + box not in seals]


def moves_of_solid(plan, solid, hands):
    """The moves of boxes and seals: tuples (index of the item, its next code)."""
    found = []
    for index, code in enumerate(solid):
        own = FIRST_BOX + index if index < plan.boxes else GONE
        for goal in goals_from(plan, solid, hands, code):
            if goal != own:
                found.append((index, goal))
        if index >= plan.boxes and FIRST_BOX <= code < GONE and solid[code - FIRST_BOX] in hands:
            found.append((index, GONE))
    return found


def moves_of_things(plan, solid, hands):
    """For each code of a place, the next codes of a thing that is there."""
    return tuple([tuple(goals_from(plan, solid, hands, code)) for code in range(CODES)])


def goals_from(plan, solid, hands, code):
    """Where an item can go by a give, a put, a take or, for a seal, onto a box."""
    if code in hands:
        return [hand for hand in hands if hand != code] + free_boxes(plan, solid, code)
    if FIRST_BOX <= code < FIRST_BOX + plan.boxes:
        hand = solid[code - FIRST_BOX]
        if hand in hands and code in free_boxes(plan, solid, hand):
            return [hand]
    return []


def moves_from(plan, codes, hands):
    """All moves from a state: tuples (index of the item, its next code)."""
    solid = codes[:plan.solid]
    found = moves_of_solid(plan, solid, hands)
    goals = moves_of_things(plan, solid, hands)
    for index in range(plan.solid, plan.size):
        for goal in goals[codes[index]]:
            found.append((index, goal))
    return found


def deed_of(plan, codes, index, goal):
    """The deed by which an item goes from its place to another one."""
    start = codes[index]
    if plan.boxes <= index < plan.solid:
        return deed_with_seal(codes, start, index - plan.boxes, goal)
    item = ("box", index) if index < plan.boxes else ("thing", index - plan.solid)
    if start >= FIRST_BOX:
        return ("take", goal, item, start - FIRST_BOX)
    if goal >= FIRST_BOX:
        return ("put", start, item, goal - FIRST_BOX)
    return ("give", start, item, goal)


def deed_with_seal(codes, start, seal, goal):
    if goal == GONE:
        box = start - FIRST_BOX
        return ("break", codes[box], box)
    if goal >= FIRST_BOX:
        return ("seal", start, goal - FIRST_BOX, seal)
    return ("give", start, ("seal", seal), goal)
