"""Ways: what some hands can bring about from a state on."""

from sealwatch.cells import behind_step, can_end, first_cells, merged, states_of
from sealwatch.fewest import Search
from sealwatch.known import need_hands
from sealwatch.places import codes_of
from sealwatch.plans import Plan, Step
from sealwatch.sights import need_sight


def shortest_way(world, hands, sight):
    """The fewest deeds of some hands behind which a sight is true, the least such list, or None."""
    need_hands(world.house, hands)
    need_sight(world.house, sight)
    return least_way(world, hands, [sight])


def least_way(world, hands, sights):
    """The fewest deeds of some hands behind which all of some sights are true, or None."""
    plan = Plan(world.house, world.state, [("gap", hands)] + sights)
    # The search would go on up to its bound if nothing could be found.
    if not can_end(plan, 0, first_cells(plan)):
        return None
    search = Search(plan)
    search.grow_ahead()
    search.grow_back()
    return search.least_course()[0]


def reachable(house, states, hands):
    """All states to which some hands can come from some states, these too, ascending."""
    need_hands(house, hands)
    plan = Plan(house, house.state, [])
    cells = [tuple([1 << code for code in codes_of(state)]) for state in states]
    return states_of(house, behind_step(plan, Step(hands, []), merged(plan, cells), None))
