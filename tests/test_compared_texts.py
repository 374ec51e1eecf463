"""Texts, boards, codes and daybooks (points 27 to 30), compared with plain ones for random houses and logs."""

import unittest

from plain import some_sight
from sealwatch.boards import board
from sealwatch.codec import decode_log, encode_log
from sealwatch.daybooks import Daybook
from sealwatch.errors import DaybookError, InvalidHouse, InvalidLog, InvalidText, WatchError
from sealwatch.houses import House
from sealwatch.logs import Log, impossible_row
from sealwatch.notation import format_log, parse_log
from sealwatch.questions import answer, possible_places
from sealwatch.touching import touch_words
from trials import Trials

NUMBER = [str(number) for number in range(100)]
ITEMS = ["box", "seal", "thing"]
SIGHTS = [[["at"], ITEMS, NUMBER, ["hand", "box"], NUMBER], [["bare"], NUMBER], [["in"], NUMBER] + [ITEMS, NUMBER] * 6, [["gone"], NUMBER]]
ROWS = [
    [["give", "put", "take"], NUMBER, ITEMS, NUMBER, NUMBER], [["seal"], NUMBER, NUMBER, NUMBER], [["break"], NUMBER, NUMBER],
    [["gap"]] + [NUMBER] * 12,
] + SIGHTS + [[["not"]] + sight for sight in SIGHTS]
ASKED = [[["ask"]] + sight for sight in SIGHTS] + [[["ask"], ["not"]] + sight for sight in SIGHTS] + [[["who", "where"], ITEMS, NUMBER]]
WORDS = "hands box thing seal log give put take break at bare in gone not gap ask who where hand x 0 1 2 3 00 100 -1".split() + [""]


def may_end(pattern, count):
    """Whether a row of this pattern can have so many words."""
    if pattern[0] == ["gap"]:
        return count > 0
    if len(pattern) > 12:
        ahead = len(pattern) - 12
        return count >= ahead and (count - ahead) % 2 == 0
    return count == len(pattern)


def first_wrong(text, patterns):
    """The index of the first wrong word of a row, or None."""
    words = text.split(" ")
    furthest = 0
    for pattern in patterns:
        at = 0
        while at < min(len(words), len(pattern)) and words[at] in pattern[at]:
            at += 1
        if at == len(words) and may_end(pattern, at):
            return None
        furthest = max(furthest, at)
    return furthest


def first_fault(text, questions):
    """The row and the word of the first wrong word of a text, or None."""
    rows = text.split("\n")
    heads = ["hands"]
    asked = 0
    for index, row in enumerate(rows):
        word = row.split(" ")[0]
        if heads == ["hands"]:
            patterns = [[["hands"], NUMBER]]
        elif heads:
            patterns = [[["log"]]] + [[[head], ["hand", "box"], NUMBER] for head in heads]
        else:
            patterns = ROWS + ASKED if asked < questions else ROWS
        wrong = first_wrong(row, patterns)
        if wrong is not None:
            return (index, wrong)
        if heads == ["hands"]:
            heads = ["box", "thing", "seal"]
        elif heads:
            heads = [] if word == "log" else heads[heads.index(word):]
        asked += word in ("ask", "who", "where")
    return (len(rows), 0) if heads else None


def some_change(chance, text):
    """A text of which up to three words, rows, spaces or line feeds are changed."""
    for _ in range(chance.randint(1, 3)):
        rows = [row.split(" ") for row in text.split("\n")]
        row = chance.choice(rows)
        at = chance.randrange(len(row))
        kind = chance.randrange(7)
        if kind == 0:
            row[at] = chance.choice(WORDS)
        elif kind == 1:
            row.insert(chance.randint(0, len(row)), chance.choice(WORDS))
        elif kind == 2 and len(row) > 1:
            del row[at]
        elif kind == 3 and len(rows) > 1:
            rows.remove(row)
        elif kind == 4:
            rows.insert(chance.randint(0, len(rows)), chance.choice(rows))
        elif kind == 5:
            rows.insert(rows.index(row), row[:at])
        else:
            row[at] = row[at] + chance.choice(("0", " ", "\n", "x"))
        text = "\n".join(" ".join(row) for row in rows)
    return text


def plain_board(world):
    """The board, made from what is innermost outwards."""
    house = world.house
    texts = {item: f"{item[0]} {item[1]}" for item in house.all_items}
    lines = [[] for _ in range(house.hands)]
    depths = {}
    for item in house.all_items:
        depth, place = 0, world.where(item)
        while place[0] == "box":
            depth, place = depth + 1, world.where(place)
        depths[item] = depth
    for box in sorted((item for item in house.all_items if item[0] == "box"), key=lambda item: -depths[item]):
        inside = [item for item in house.all_items if item[0] != "seal" and world.where(item) == box]
        seals = [item for item in house.all_items if item[0] == "seal" and world.where(item) == box]
        texts[box] += "".join(f" ({texts[seal]})" for seal in seals)
        texts[box] += " [" + ", ".join(texts[item] for item in inside) + "]" if inside else ""
    for item in house.all_items:
        if world.where(item)[0] == "hand":
            lines[world.where(item)[1]].append(texts[item])
    return "\n".join(f"hand {hand}:" + (" " + ", ".join(line) if line else "") for hand, line in enumerate(lines))


def words_of_sight(sight):
    """The words of a sight, from the text of a log with it."""
    house = House(4, (("hand", 0), ("hand", 0), ("hand", 0)), (("hand", 0),) * 4, (("hand", 0),) * 3)
    return format_log(Log(house, [sight])).split("\n")[-1]


class Compared(Trials):

    def test_logs(self):
        self.each(range(6000, 6300), 12, self.check_log)

    def check_log(self, chance, _, __, log):
        text = format_log(log)
        self.assertEqual(parse_log(text), log)
        self.assertIsNone(first_fault(text, 0))
        values = encode_log(log)
        self.assertEqual(decode_log(values), log)
        for _ in range(10):
            changed = list(values)
            at = chance.randrange(len(values))
            changed[at] = chance.choice([value for value in range(130) if value != values[at]])
            self.assertRaises(WatchError, decode_log, changed)

    def test_changed_texts(self):
        self.each(range(6300, 6700), 6, self.check_changed)

    def check_changed(self, chance, _, __, log):
        rows = format_log(log).split("\n")
        for _ in range(8):
            text = some_change(chance, "\n".join(rows))
            self.check_text(text, first_fault(text, 0), parse_log, InvalidText)
            told = list(rows)
            for _ in range(chance.randint(0, 3)):
                question = chance.choice(("ask " + words_of_sight(some_sight(chance, log.house)), "who box 0", "where thing 0"))
                told.insert(chance.randint(rows.index("log") + 1, len(told)), question)
            text = some_change(chance, "\n".join(told))
            self.check_text(text, first_fault(text, 100), Daybook, DaybookError)

    def check_text(self, text, fault, function, error_class):
        try:
            function(text)
            self.assertIsNone(fault, text)
        except error_class as error:
            if fault is None:
                # A daybook may be without a course ahead of a question.
                self.assertEqual((error_class, error.word), (DaybookError, 0), text)
            else:
                self.assertEqual((error.row, error.word), fault, text)
        except (InvalidHouse, InvalidLog):
            self.assertIsNone(fault, text)

    def test_boards(self):
        self.each(range(6700, 6900), 0, self.check_board)

    def check_board(self, chance, plain, *_):
        state = plain.house.state
        for _ in range(20):
            world = plain.world.changed(state)
            self.assertEqual(board(world), plain_board(world))
            moves = plain.moves(state, tuple(range(plain.house.hands)))
            state = chance.choice(moves)[1] if moves else state

    def test_daybooks(self):
        self.each(range(6900, 7200), 10, self.check_daybook)

    def check_daybook(self, chance, plain, rows, log):
        lines = format_log(log).split("\n")
        head = lines.index("log") + 1
        text = lines[:head]
        expected = []
        fault = None
        for count in range(len(rows) + 1):
            ahead = log.until(count)
            for _ in range(chance.randint(0, 2)):
                question, function, argument = self.some_question(chance, plain.house)
                if fault is None and impossible_row(ahead) is not None:
                    fault = len(text)
                if fault is None:
                    expected.append(function(ahead, argument))
                text.append(question)
            text += lines[head + count:head + count + 1]
        text = "\n".join(text)
        if fault is not None:
            with self.assertRaises(DaybookError) as caught:
                Daybook(text)
            self.assertEqual((caught.exception.row, caught.exception.word), (fault, 0))
        else:
            self.assertEqual(Daybook(text).results, "\n".join(expected))
            self.assertEqual(Daybook(text).log(), log)

    def some_question(self, chance, house):
        """A question, and what tells the answer."""
        kind = chance.randrange(3)
        if kind == 0:
            sight = some_sight(chance, house)
            return "ask " + words_of_sight(sight), answer, sight
        item = chance.choice(house.all_items)
        words = f"{item[0]} {item[1]}"
        if kind == 1:
            return "who " + words, lambda log, item: " ".join(touch_words(log, item)), item
        return "where " + words, self.told_places, item

    def told_places(self, log, item):
        places = [" ".join((word, str(number))) for word, number in possible_places(log, item)]
        return ", ".join(places).replace("gone 0", "gone")


if __name__ == "__main__":
    unittest.main()
