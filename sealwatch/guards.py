"""Guards: what hands can bring about without being noticed, and which checks keep them from it."""

from sealwatch.cells import behind_step, behind_ways, first_cells
from sealwatch.checks import finding_in, need_checks, sight_of
from sealwatch.known import need_hands
from sealwatch.plans import Plan, sight_ways
from sealwatch.sights import need_sight
from sealwatch.subsets import all_sets
from sealwatch.ways import least_way


def unnoticed_way(world, hands, sight, checks):
    """The fewest deeds behind which a sight is true and all checks have the same findings, or None."""
    need_guarded(world.house, hands, sight, checks)
    return least_way(world, hands, [sight] + same_findings(world.state, checks))


def guards(world, hands, sight, checks):
    """The shortest list of indexes of checks with which alone there is no such way, or None."""
    need_guarded(world.house, hands, sight, checks)
    plan = Plan(world.house, world.state, [("gap", hands), sight])
    cells = first_cells(plan)
    for step in plan.steps:
        cells = behind_step(plan, step, cells, None)
    ways = [sight_ways(world.house, same, True) for same in same_findings(world.state, checks)]
    # With more checks there are fewer ways, so no set of checks does if all of them together do not.
    if are_possible(cells, ways):
        return None
    return first_guards(cells, ways)


def first_guards(cells, ways):
    """The first of the shortest sets of checks with which there is no way; all of them together are one."""
    for numbers in all_sets(len(ways)):
        if not are_possible(cells, [ways[number] for number in numbers]):
            return list(numbers)
    return None


def need_guarded(house, hands, sight, checks):
    need_hands(house, hands)
    need_sight(house, sight)
    need_checks(house, checks)


def same_findings(state, checks):
    """The sights that tell of each check what a state has for it."""
    return [sight_of(check, finding_in(state, check)) for check in checks]


def are_possible(cells, sights):
    """Whether the ways of all of some sights can be in some state of cells."""
    for ways in sights:
        cells = behind_ways(cells, ways)
    return len(cells) > 0
