"""Who touches an item, and when."""

from sealwatch.cells import behind_step, can_end, cells_along, merged, with_item
from sealwatch.known import need_hand, need_item
from sealwatch.places import index_of
from sealwatch.plans import plan_of
from sealwatch.questions import possible_moments


def touch_words(log, item):
    """For each hand, whether it touches an item "surely", "perhaps" or "never"."""
    need_item(log.house, item)
    return words_along(log, possible_moments(log), item)[-1]


def words_along(log, moments, item):
    """At each moment, for each hand, whether it has touched an item in the courses up to there."""
    plan = plan_of(log)
    index = index_of(log.house, item)
    words = [words_of_hand(plan, moments, (index, 1 << hand)) for hand in range(log.house.hands)]
    return [[row[moment] for row in words] for moment in range(len(moments))]


def words_of_hand(plan, moments, held):
    """The words at each moment for the index of an item and the mask of a hand."""
    free = [len(cells) > 0 for cells in cells_along(plan, held)]
    words = []
    for moment, cells in enumerate(touched_along(plan, moments, held)):
        if moment >= len(free) or not free[moment]:
            words.append("surely")
        else:
            words.append("perhaps" if cells else "never")
    return words


def touched_along(plan, moments, held):
    """At each moment the cells of the states to which some course leads in which the hand has held the item."""
    touched = with_item(moments[0], held[0], held[1])
    found = [touched]
    for moment, step in enumerate(plan.steps[:len(moments) - 1]):
        cells = moments[moment + 1]
        if sorted(touched) == sorted(moments[moment]):
            touched = cells
        else:
            touched = touched_behind(plan, step, touched, with_item(cells, held[0], held[1]))
        found.append(touched)
    return found


def touched_behind(plan, step, touched, fresh):
    """The cells of what was touched before, or is touched freshly in a row."""
    if step.hands is None:
        return merged(plan, behind_step(plan, step, touched, None) + fresh)
    # What the hand comes to hold within a gap can go on from there in the same gap.
    return behind_step(plan, step, merged(plan, touched + fresh), None)


def touch_span(log, item, hand):
    """The first and the last moment at which a hand can hold an item, or None."""
    need_item(log.house, item)
    need_hand(log.house, hand)
    moments = possible_moments(log)
    first = first_held(log, moments, item, hand)
    if first is None:
        return None
    last = len(moments) - 1
    while not is_held(log, moments, last, item, hand):
        last -= 1
    return (first, last)


def first_held(log, moments, item, hand):
    for moment in range(len(moments)):
        if is_held(log, moments, moment, item, hand):
            return moment
    return None


def is_held(log, moments, moment, item, hand):
    """Whether a hand holds an item at a moment in some course that fits.

    The moment behind a gap is the whole time of the gap, so the gap may go on behind it.
    """
    cells = with_item(moments[moment], index_of(log.house, item), 1 << hand)
    row = moment
    if moment > 0 and log.rows[moment - 1][0] == "gap":
        row = moment - 1
    return can_end(plan_of(log), row, cells)
