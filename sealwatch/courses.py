"""Courses: the secret deeds behind a log."""

from sealwatch.counting import Counter
from sealwatch.deeds import DEED_WORDS, need_deed, state_behind
from sealwatch.errors import InvalidCourse, InvalidNumber, WatchError
from sealwatch.fewest import Search
from sealwatch.known import is_number
from sealwatch.moves import deed_of, moves_from
from sealwatch.plans import codes_behind, plan_of
from sealwatch.questions import possible_moments
from sealwatch.sights import is_true

MOST_DEEDS = 20


def fewest_course(log):
    """The fewest secret deeds of a course that fits, and the least such course."""
    possible_moments(log)
    search = Search(plan_of(log))
    search.grow_ahead()
    search.grow_back()
    return (search.best, search.least_course())


def first_fault(log, course):
    """Where a course fits no more: the index of the row, and of the secret deed or -1; None if it fits."""
    if len(course) != len(log.gaps):
        raise InvalidCourse("a course has a list for each gap")
    state = log.house.state
    used = 0
    for index, row in enumerate(log.rows):
        if row[0] == "gap":
            for number, deed in enumerate(course[used]):
                state = state_behind_secret(log.house, state, row[1], deed)
                if state is None:
                    return (index, number)
            used += 1
        else:
            state = state_behind_row(log.house, state, row)
            if state is None:
                return (index, -1)
    return None


def state_behind_secret(house, state, hands, deed):
    """The state behind a secret deed of some hands, or None if it cannot be."""
    if deed[0] not in DEED_WORDS or deed[1] not in hands:
        return None
    if deed[0] == "give" and deed[3] not in hands:
        return None
    return state_behind_row(house, state, deed)


def state_behind_row(house, state, row):
    """The state behind a deed or a sight, or None if it cannot be."""
    if row[0] not in DEED_WORDS:
        return state if is_true(state, row) else None
    try:
        need_deed(house, row)
        return state_behind(state, row)
    except WatchError:
        return None


def course_count(log, number):
    """How many courses with just so many secret deeds fit."""
    need_number(number)
    return Counter(plan_of(log), log.rows, number, None).all_courses()


def courses(log, number):
    """All courses with just so many secret deeds that fit, ascending."""
    need_number(number)
    plan = plan_of(log)
    counter = Counter(plan, log.rows, number, None)
    for course in courses_from(counter, 0, plan.start, number):
        yield course


def need_number(number):
    if not is_number(number, MOST_DEEDS + 1):
        raise InvalidNumber(f"a number of secret deeds is from 0 to {MOST_DEEDS}")


def courses_from(counter, row, codes, left):
    """The rest of all courses from a state ahead of a row on, ascending."""
    if not counter.can_go_on(row, codes, left):
        return
    if row == len(counter.plan.steps):
        yield []
        return
    step = counter.plan.steps[row]
    later = row + 1
    if step.hands is None:
        behind = codes_behind(codes, step.ways)
        for rest in courses_from(counter, later, behind, left):
            yield rest
        return
    for rest in courses_from(counter, later, codes, left):
        yield [[]] + rest
    fewer = left - 1
    for deed, changed in deeds_from(counter.plan, codes, step.hands):
        for rest in courses_from(counter, row, changed, fewer):
            yield [[deed] + rest[0]] + rest[1:]


def deeds_from(plan, codes, hands):
    """All secret deeds from a state, ascending, with the codes behind them."""
    found = []
    for index, goal in moves_from(plan, codes, hands):
        found.append((deed_of(plan, codes, index, goal), codes[:index] + (goal,) + codes[index + 1:]))
    return sorted(found)
