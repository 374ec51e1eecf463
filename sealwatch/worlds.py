"""Worlds: houses in a state."""

from sealwatch.deeds import need_deed, state_behind
from sealwatch.known import need_box, need_hand, need_item
from sealwatch.sights import is_true, need_sight
from sealwatch.states import holder_in, loads_at, place_in, seal_on, seals_at


class World:
    """A house in a state, at first that of the beginning."""

    def __init__(self, house):
        self.house = house
        self.state = house.state

    def __call__(self, deed):
        need_deed(self.house, deed)
        return self.changed(state_behind(self.state, deed))

    def __eq__(self, other):
        return isinstance(other, World) and self.house == other.house and self.state == other.state

    def changed(self, state):
        """The world of the same house in another state."""
        world = World(self.house)
        world.state = state
        return world

    def where(self, item):
        """The place of an item."""
        need_item(self.house, item)
        return place_in(self.state, item)

    def holder(self, item):
        """The hand that holds an item, or what is around it; None for a broken seal."""
        need_item(self.house, item)
        return holder_in(self.state, item)

    def inside(self, box):
        """The boxes and things straight in a box, ascending."""
        need_box(self.house, box)
        return loads_at(self.state, ("box", box))

    def seal(self, box):
        """The number of the seal of a box, or None."""
        need_box(self.house, box)
        return seal_on(self.state, box)

    def held(self, hand):
        """The items that a hand holds straight, ascending."""
        need_hand(self.house, hand)
        place = ("hand", hand)
        return sorted(loads_at(self.state, place) + seals_at(self.state, place))

    def is_so(self, sight):
        """Whether a sight is true of the state."""
        need_sight(self.house, sight)
        return is_true(self.state, sight)
