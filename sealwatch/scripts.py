"""Scripts: what stands in the text of a log or a daybook, whatever it tells."""

from sealwatch.errors import InvalidText
from sealwatch.houses import House
from sealwatch.shapes import ITEM_WORDS, PLACE_WORDS, PLAIN_WORDS, QUESTION_WORDS, ROW_WORDS, SIGHT_WORDS, shape_of

HEAD_WORDS = ("box", "thing", "seal", "log")
DIGITS = "0123456789"


class Line:
    """The words of a row of a text, read from left to right."""

    def __init__(self, row, text):
        self.row = row
        self.words = text.split(" ")
        self.at = 0

    def has_more(self):
        return self.at < len(self.words)

    def word_of(self, choices):
        """The next word, which is one of some."""
        if not self.has_more() or self.words[self.at] not in choices:
            raise InvalidText(self.row, self.at)
        self.at += 1
        return self.words[self.at - 1]

    def integer(self):
        """The next word as a number."""
        if not self.has_more() or not is_numeral(self.words[self.at]):
            raise InvalidText(self.row, self.at)
        self.at += 1
        return int(self.words[self.at - 1])

    def need_end(self):
        if self.has_more():
            raise InvalidText(self.row, self.at)


class Script:
    """The parameters of a house, and all rows and questions behind them, as tuples (row of the text, told)."""

    def __init__(self, text, most_questions):
        lines = [Line(row, part) for row, part in enumerate(text.split("\n"))]
        self.hands = 0
        self.places = {"box": [], "thing": [], "seal": []}
        self.told = []
        head = self.read_head(lines)
        self.read_rows(lines[head:], most_questions)

    def read_head(self, lines):
        """Read all lines ahead of the rows of the log; returns how many these are."""
        lines[0].word_of(("hands",))
        self.hands = lines[0].integer()
        lines[0].need_end()
        words = HEAD_WORDS
        for line in lines[1:]:
            word = line.word_of(words)
            if word != "log":
                self.places[word].append(read_part(line, "place"))
            line.need_end()
            if word == "log":
                return line.row + 1
            words = words[words.index(word):]
        raise InvalidText(len(lines), 0)

    def read_rows(self, lines, most_questions):
        """Read the rows of the log, and up to so many questions between them."""
        left = most_questions
        for line in lines:
            words = ROW_WORDS + QUESTION_WORDS if left > 0 else ROW_WORDS
            told = read_told(line, words)
            line.need_end()
            if told[0] in QUESTION_WORDS:
                left -= 1
            self.told.append((line.row, told))

    def made_house(self):
        """The house of the text; raises InvalidHouse."""
        return House(self.hands, tuple(self.places["box"]), tuple(self.places["thing"]), tuple(self.places["seal"]))


def is_numeral(word):
    """Whether a word is 0, or one or two digits that do not begin with 0."""
    if len(word) == 0 or len(word) > 2 or (word[0] == "0" and word != "0"):
        return False
    return all([sign in DIGITS for sign in word])


def read_told(line, words):
    """A row, a sight or a question that begins with one of some words."""
    word = line.word_of(words)
    return tuple([word] + [read_part(line, kind) for kind in shape_of(word)])


def read_part(line, kind):
    match kind:
        case "number":
            return line.integer()
        case "item":
            return (line.word_of(ITEM_WORDS), line.integer())
        case "place":
            return (line.word_of(PLACE_WORDS), line.integer())
        case "items":
            return read_all(line, "item")
        case "numbers":
            return read_all(line, "number")
        case "plain":
            return read_told(line, PLAIN_WORDS)
    return read_told(line, SIGHT_WORDS)


def read_all(line, kind):
    """All parts of a kind up to the end of the line."""
    parts = []
    while line.has_more():
        parts.append(read_part(line, kind))
    return tuple(parts)
