"""Who touches an item, and when."""

from sealwatch.cells import can_end, last_cells, with_item
from sealwatch.known import need_hand, need_item
from sealwatch.places import index_of
from sealwatch.plans import plan_of
from sealwatch.questions import possible_moments


def touch_words(log, item):
    """For each hand, whether it touches an item "surely", "perhaps" or "never"."""
    need_item(log.house, item)
    moments = possible_moments(log)
    return [touch_word(log, moments, item, hand) for hand in range(log.house.hands)]


def touch_word(log, moments, item, hand):
    ban = (index_of(log.house, item), 1 << hand)
    if len(last_cells(plan_of(log), ban)) == 0:
        return "surely"
    if first_held(log, moments, item, hand) is None:
        return "never"
    return "perhaps"


def touch_span(log, item, hand):
    """The first and the last moment at which a hand can hold an item, or None."""
    need_item(log.house, item)
    need_hand(log.house, hand)
    moments = possible_moments(log)
    first = first_held(log, moments, item, hand)
    if first is None:
        return None
    last = len(moments) - 1
    while not is_held(log, moments, last, item, hand):
        last -= 1
    return (first, last)


def first_held(log, moments, item, hand):
    for moment in range(len(moments)):
        if is_held(log, moments, moment, item, hand):
            return moment
    return None


def is_held(log, moments, moment, item, hand):
    """Whether a hand holds an item at a moment in some course that fits.

    The moment behind a gap is the whole time of the gap, so the gap may go on behind it.
    """
    cells = with_item(moments[moment], index_of(log.house, item), 1 << hand)
    row = moment
    if moment > 0 and log.rows[moment - 1][0] == "gap":
        row = moment - 1
    return can_end(plan_of(log), row, cells)
