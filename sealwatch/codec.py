"""Codec: logs as lists of integers."""

from sealwatch.errors import DecodeError
from sealwatch.houses import House
from sealwatch.known import is_number
from sealwatch.logs import Log
from sealwatch.shapes import ITEM_WORDS, PLACE_WORDS, PLAIN_WORDS, ROW_WORDS, shape_of

FIRST = 115
MOST = 99


def encode_log(log):
    """The integers of a log."""
    house = log.house
    numbers = [FIRST, house.hands]
    for places in (house.boxes, house.things, house.seals):
        numbers.append(len(places))
        for place in places:
            numbers.extend(code_of_part("place", place))
    numbers.append(len(log.rows))
    for row in log.rows:
        numbers.extend(code_of_row(row))
    return numbers + [checksum(numbers)]


def code_of_row(row):
    """The integers of a row or a sight."""
    numbers = [ROW_WORDS.index(row[0])]
    for kind, part in zip(shape_of(row[0]), row[1:]):
        numbers.extend(code_of_part(kind, part))
    return numbers


def code_of_part(kind, part):
    match kind:
        case "number":
            return [part]
        case "item":
            return [ITEM_WORDS.index(part[0]), part[1]]
        case "place":
            return [PLACE_WORDS.index(part[0]), part[1]]
        case "items":
            return [len(part)] + [number for item in part for number in code_of_part("item", item)]
        case "numbers":
            return [len(part)] + list(part)
    return code_of_row(part)


def checksum(numbers):
    total = 9
    for number in numbers:
        total = (13 * total + number) % 239
    return total


def decode_log(values):
    """The log of a list of integers; raises DecodeError, InvalidHouse or InvalidLog."""
    code = Code(values)
    code.integer(FIRST, FIRST)
    hands = code.integer(0, MOST)
    boxes = code.read_all("place")
    things = code.read_all("place")
    seals = code.read_all("place")
    count = code.integer(0, MOST)
    rows = [code.read_row(ROW_WORDS) for _ in range(count)]
    code.need_end()
    return Log(House(hands, boxes, things, seals), rows)


class Code:
    """Integers, read one by one."""

    def __init__(self, numbers):
        self.numbers = numbers
        self.at = 0

    def integer(self, low, high):
        """The next integer, which is from low to high."""
        if self.at == len(self.numbers):
            raise DecodeError(self.at)
        number = self.numbers[self.at]
        if not is_number(number, high + 1) or number < low:
            raise DecodeError(self.at)
        self.at += 1
        return number

    def word_of(self, words):
        """The word whose index is the next integer."""
        return words[self.integer(0, len(words) - 1)]

    def read_row(self, words):
        """A row or a sight that begins with one of some words."""
        first = ROW_WORDS.index(words[0])
        word = ROW_WORDS[self.integer(first, first + len(words) - 1)]
        return tuple([word] + [self.read_part(kind) for kind in shape_of(word)])

    def read_part(self, kind):
        match kind:
            case "number":
                return self.integer(0, MOST)
            case "item":
                return (self.word_of(ITEM_WORDS), self.integer(0, MOST))
            case "place":
                return (self.word_of(PLACE_WORDS), self.integer(0, MOST))
            case "items":
                return self.read_all("item")
            case "numbers":
                return self.read_all("number")
        return self.read_row(PLAIN_WORDS)

    def read_all(self, kind):
        """As many parts of a kind as the next integer tells."""
        count = self.integer(0, MOST)
        return tuple([self.read_part(kind) for _ in range(count)])

    def need_end(self):
        """The checksum of all that was read comes next, and nothing behind it."""
        total = checksum(self.numbers[:self.at])
        self.integer(total, total)
        if self.at < len(self.numbers):
            raise DecodeError(self.at)
