"""Teams: which hands must have done something."""

from sealwatch.cells import some_course_fits
from sealwatch.questions import possible_moments
from sealwatch.subsets import all_sets, has_part


def least_teams(log):
    """The least sets of hands such that a course fits in which only these do secret deeds, ascending."""
    possible_moments(log)
    teams = []
    for team in all_sets(log.house.hands):
        if not has_part(team, teams) and some_course_fits(log.house, log.watched(team).rows):
            teams.append(team)
    return sorted(teams)


def indispensable(log):
    """The hands that are in all least teams, ascending."""
    teams = least_teams(log)
    return [hand for hand in teams[0] if is_in_all(hand, teams)]


def is_in_all(hand, teams):
    for team in teams:
        if hand not in team:
            return False
    return True
