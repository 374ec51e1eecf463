"""Shares: in which part of all courses with just so many secret deeds something is so."""

from math import gcd

from sealwatch.counting import Counter
from sealwatch.errors import InvalidNumber, NoCourse
from sealwatch.known import is_number, need_item
from sealwatch.places import index_of
from sealwatch.plans import Plan, plan_of
from sealwatch.sights import need_sight

MOST_SHARED = 8


def share(log, number, sight):
    """The part of the courses at whose end a sight is true, as a fraction (numerator, denominator)."""
    need_shared(number)
    need_sight(log.house, sight)
    many = count_of_all(log, number)
    # The sight may be one row more than a log can have.
    rows = log.rows + (sight,)
    plan = Plan(log.house, log.house.state, rows)
    return fraction(Counter(plan, rows, number, None).all_courses(), many)


def touch_shares(log, number, item):
    """For each hand the part of the courses in which it touches an item."""
    need_shared(number)
    need_item(log.house, item)
    many = count_of_all(log, number)
    return [fraction(many - count_without(log, number, item, hand), many) for hand in range(log.house.hands)]


def need_shared(number):
    if not is_number(number, MOST_SHARED + 1):
        raise InvalidNumber(f"a number of secret deeds is from 0 to {MOST_SHARED}")


def count_of_all(log, number):
    """How many courses there are; raises NoCourse if there are none."""
    count = Counter(plan_of(log), log.rows, number, None).all_courses()
    if count == 0:
        raise NoCourse("no course has so many secret deeds")
    return count


def count_without(log, number, item, hand):
    """In how many courses a hand never holds an item straight."""
    # This row does not happen; it only tells that the hand and the item are like no others.
    rows = log.rows + (("at", item, ("hand", hand)),)
    return Counter(plan_of(log), rows, number, (index_of(log.house, item), hand)).all_courses()


def fraction(part, whole):
    common = gcd(part, whole)
    return (part // common, whole // common)
