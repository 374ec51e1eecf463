"""What unwatched hands can do in a gap, from all states of some cells at once."""

from sealwatch.places import FIRST_BOX, GONE


class Gap:
    """The cells that some hands can reach; an item of a ban is never at the places of its mask."""

    def __init__(self, plan, hands, ban):
        self.boxes = plan.boxes
        self.solid = plan.solid
        self.team = sum([1 << hand for hand in hands])
        self.holds = [self.team] * plan.size
        if ban is not None:
            self.holds[ban[0]] = self.team & ~ban[1]
        self.found = {}
        self.waiting = []

    def enter(self, cell):
        """Take the states of a cell, apart by which of the solid items the team holds."""
        solids = [()]
        for index in range(self.solid):
            parts = self.parts(index, cell[index])
            solids = [solid + (part,) for solid in solids for part in parts]
        for solid in solids:
            self.add(solid, cell[self.solid:])

    def parts(self, index, mask):
        """What the team holds, any of its hands can hold; the rest stays as it is."""
        if mask & self.team == 0:
            return [mask]
        if mask & ~self.team == 0:
            return [self.holds[index]]
        return [self.holds[index], mask & ~self.team]

    def add(self, solid, things):
        """Note a cell with all that the team can do with the things, if this is new."""
        things = self.spread(solid, things)
        known = self.found.get(solid, [])
        for other in known:
            if is_within(things, other):
                return
        self.found[solid] = [other for other in known if not is_within(other, things)] + [things]
        self.waiting.append((solid, things))

    def spread(self, solid, things):
        """The things that are in reach of the team can be with all of its hands, and in all boxes in reach."""
        reach = sum([1 << FIRST_BOX + box for box in self.free_boxes(solid)])
        masks = []
        for index, mask in enumerate(things):
            holds = self.holds[self.solid + index]
            if holds and mask & (holds | reach):
                mask = mask | holds | reach
            masks.append(mask)
        return tuple(masks)

    def free_boxes(self, solid):
        """The boxes that the team holds straight, without a seal."""
        seals = solid[self.boxes:]
        return [box for box in range(self.boxes)
                if solid[box] & self.holds[box] and 1 << FIRST_BOX + box not in seals]

    def run(self):
        while self.waiting:
            solid, things = self.waiting.pop()
            if things in self.found[solid]:
                for changed in self.next_solids(solid):
                    self.add(changed, things)

    def next_solids(self, solid):
        """The solid masks behind one deed with a box or a seal, but for gives."""
        found = []
        for box in self.free_boxes(solid):
            inside = 1 << FIRST_BOX + box
            for index in range(self.solid):
                if index != box and solid[index] & self.holds[index]:
                    found.append(solid[:index] + (inside,) + solid[index + 1:])
                if solid[index] == inside and self.holds[index]:
                    found.append(solid[:index] + (self.holds[index],) + solid[index + 1:])
        for index in range(self.boxes, self.solid):
            if self.is_in_reach(solid, solid[index]):
                found.append(solid[:index] + (1 << GONE,) + solid[index + 1:])
        return found

    def is_in_reach(self, solid, mask):
        """Whether the team holds straight the box on which a seal of this mask is."""
        for box in range(self.boxes):
            if mask == 1 << FIRST_BOX + box and solid[box] & self.holds[box]:
                return True
        return False

    def all_cells(self):
        return [solid + things for solid, rows in self.found.items() for things in rows]


def is_within(masks, others):
    """Whether each mask is a part of the other one."""
    for mask, other in zip(masks, others):
        if mask & ~other:
            return False
    return True
