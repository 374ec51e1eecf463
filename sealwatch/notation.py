"""Notation: logs as texts."""

from sealwatch.logs import Log
from sealwatch.scripts import Script
from sealwatch.shapes import shape_of


def format_log(log):
    """The text of a log."""
    house = log.house
    rows = [["hands", str(house.hands)]]
    for word, places in (("box", house.boxes), ("thing", house.things), ("seal", house.seals)):
        rows = rows + [[word] + words_of_part("place", place) for place in places]
    rows = rows + [["log"]] + [words_of(row) for row in log.rows]
    return "\n".join([" ".join(words) for words in rows])


def words_of(told):
    """The words of a row or a sight."""
    words = [told[0]]
    for kind, part in zip(shape_of(told[0]), told[1:]):
        words.extend(words_of_part(kind, part))
    return words


def words_of_part(kind, part):
    match kind:
        case "number":
            return [str(part)]
        case "item" | "place":
            return [part[0], str(part[1])]
        case "items":
            return [word for item in part for word in words_of_part("item", item)]
        case "numbers":
            return [str(number) for number in part]
    return words_of(part)


def parse_log(text):
    """The log of a text; raises InvalidText, InvalidHouse or InvalidLog."""
    script = Script(text, 0)
    return Log(script.made_house(), [told for _, told in script.told])
