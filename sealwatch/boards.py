"""Boards: what all hands hold, as a text."""


def board(world):
    """A line for each hand, with all that it holds."""
    return "\n".join([line_of(world, hand) for hand in range(world.house.hands)])


def line_of(world, hand):
    items = world.held(hand)
    return f"hand {hand}: {text_of_all(world, items)}" if items else f"hand {hand}:"


def text_of_all(world, items):
    return ", ".join([text_of(world, item) for item in items])


def text_of(world, item):
    """An item; behind a box its seal, and what is in it."""
    word, number = item
    text = f"{word} {number}"
    if word == "box":
        seal = world.seal(number)
        items = world.inside(number)
        if seal is not None:
            text = f"{text} (seal {seal})"
        if items:
            text = f"{text} [{text_of_all(world, items)}]"
    return text
