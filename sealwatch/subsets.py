"""Sets of numbers as ascending tuples."""


def all_sets(count):
    """All sets of numbers below a count: shorter ones first, those of one length in tuple order."""
    found = [()]
    longest = [()]
    for _ in range(count):
        longest = [numbers + (number,) for numbers in longest for number in range(count)
                   if len(numbers) == 0 or number > numbers[-1]]
        found = found + longest
    return found


def has_part(team, teams):
    """Whether one of some sets is a part of a set."""
    for other in teams:
        if is_part(other, team):
            return True
    return False


def is_part(numbers, others):
    for number in numbers:
        if number not in others:
            return False
    return True
