"""Tellers: who has told the rows of a log, and who of them has to have lied."""

from sealwatch.cells import some_course_fits
from sealwatch.errors import InvalidTeller, NoCourse
from sealwatch.known import is_number
from sealwatch.leaving import Leaving
from sealwatch.plans import plan_of
from sealwatch.subsets import all_sets, has_part


def liars(log, tellers):
    """The least sets of hands such that some course fits the log without the rows that they told, ascending."""
    need_sure_course(log, tellers)
    teams = []
    for team in all_sets(log.house.hands):
        if not has_part(team, teams) and some_course_fits(log.house, rows_without(log, tellers, team)):
            teams.append(team)
    return sorted(teams)


def least_left_out(log, tellers):
    """The shortest list of indexes of told rows without which some course fits the log, the first one of several."""
    need_sure_course(log, tellers)
    told = [index for index, teller in enumerate(tellers) if teller is not None]
    return Leaving(plan_of(log), told).first_list()


def need_sure_course(log, tellers):
    """Raise InvalidTeller, or NoCourse if no course fits the sure rows alone."""
    need_tellers(log, tellers)
    if not some_course_fits(log.house, rows_without(log, tellers, tuple(range(log.house.hands)))):
        raise NoCourse("no course fits the sure rows")


def need_tellers(log, tellers):
    """Raise InvalidTeller for the first teller that is wrong, missing or superfluous."""
    for index, teller in enumerate(tellers):
        if index == len(log) or not can_tell(log, index, teller):
            raise InvalidTeller(index)
    if len(tellers) < len(log):
        raise InvalidTeller(len(tellers))


def can_tell(log, index, teller):
    """Whether a row can be told by a teller: a gap is told by nobody."""
    return teller is None or (is_number(teller, log.house.hands) and log[index][0] != "gap")


def rows_without(log, tellers, team):
    """The rows of a log that none of some hands told."""
    return [row for row, teller in zip(log.rows, tellers) if teller is None or teller not in team]
