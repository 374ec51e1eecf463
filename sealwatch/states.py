"""States: tuples of the places of all boxes, all things and all seals."""

PARTS = {"box": 0, "thing": 1, "seal": 2}


def place_in(state, item):
    """The place of an item in a state."""
    word, number = item
    return state[PARTS[word]][number]


def with_place(state, item, place):
    """The state with an item at another place."""
    word, number = item
    part = PARTS[word]
    places = state[part]
    places = places[:number] + (place,) + places[number + 1:]
    return state[:part] + (places,) + state[part + 1:]


def seal_on(state, box):
    """The number of the seal of a box, or None."""
    for number, place in enumerate(state[2]):
        if place == ("box", box):
            return number
    return None


def loads_at(state, place):
    """The boxes and things that are straight at a place, ascending."""
    boxes = [("box", number) for number, other in enumerate(state[0]) if other == place]
    things = [("thing", number) for number, other in enumerate(state[1]) if other == place]
    return boxes + things


def seals_at(state, place):
    """The seals that are at a place, ascending."""
    return [("seal", number) for number, other in enumerate(state[2]) if other == place]


def holder_in(state, item):
    """The hand that holds an item, or the outermost box around it; None for a broken seal."""
    word, number = place_in(state, item)
    while word == "box":
        word, number = state[0][number]
    if word == "hand":
        return number
    return None
