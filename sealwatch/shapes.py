"""Shapes: what belongs to the word of a row or a question, in order; texts and codes are written and read by it.

A "sight" is any one, a "plain" one is none with "not"; "items" and "numbers" are as many as there are.
"""

ROW_WORDS = ("give", "put", "take", "seal", "break", "at", "bare", "in", "gone", "not", "gap")
SIGHT_WORDS = ("at", "bare", "in", "gone", "not")
PLAIN_WORDS = ("at", "bare", "in", "gone")
QUESTION_WORDS = ("ask", "who", "where")
ITEM_WORDS = ("box", "seal", "thing")
PLACE_WORDS = ("hand", "box")

SHAPES = {
    "give": ("number", "item", "number"),
    "put": ("number", "item", "number"),
    "take": ("number", "item", "number"),
    "seal": ("number", "number", "number"),
    "break": ("number", "number"),
    "at": ("item", "place"),
    "bare": ("number",),
    "in": ("number", "items"),
    "gone": ("number",),
    "not": ("plain",),
    "gap": ("numbers",),
    "ask": ("sight",),
    "who": ("item",),
    "where": ("item",),
}


def shape_of(word):
    """The kinds of all that belongs to a word."""
    return SHAPES[word]
