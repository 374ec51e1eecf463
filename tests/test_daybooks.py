"""Daybooks (point 30)."""

import unittest

from calls import Calls
from sealwatch.daybooks import Daybook
from sealwatch.errors import DaybookError, InvalidHouse, InvalidLog
from sealwatch.houses import House
from sealwatch.logs import Log

HEAD = "hands 2\nbox hand 0\nthing box 0\nseal box 0\nlog"
HOUSE = House(2, (("hand", 0),), (("box", 0),), (("box", 0),))
MORE = "hands 3\nbox hand 0\nbox box 0\nbox hand 2\nthing box 1\nthing hand 1\nseal box 0\nlog"


def results(text):
    return Daybook(text).results


def text_of(*rows):
    return "\n".join((HEAD,) + rows)


class Answered(Calls):

    def check(self, text, lines, house, rows):
        self.returns("\n".join(lines), results, text)
        self.assertEqual(Daybook(text).log(), Log(house, rows))
        daybook = Daybook(text)
        self.assertEqual([daybook.results, daybook.results, daybook.log()], ["\n".join(lines)] * 2 + [daybook.log()])

    def test_no_questions(self):
        self.check(HEAD, [], HOUSE, [])
        self.check(text_of("gap 0", "bare 0"), [], HOUSE, [("gap", (0,)), ("bare", 0)])
        self.assertEqual(results(HEAD), "")

    def test_questions_without_rows(self):
        self.check(text_of("ask bare 0", "ask not bare 0", "who box 0", "who thing 0", "where seal 0"),
                   ["never", "always", "surely never", "never never", "box 0"], HOUSE, [])

    def test_questions_ahead_of_and_behind_rows(self):
        rows = ("where thing 0", "gap 0", "ask gone 0", "where thing 0", "where seal 0", "bare 0", "where seal 0", "who thing 0",
                "ask in 0", "take 0 thing 0 0", "who thing 0", "ask in 0")
        lines = ["box 0", "sometimes", "box 0, hand 0", "box 0, gone", "gone", "perhaps never", "sometimes", "surely never", "always"]
        self.check(text_of(*rows), lines, HOUSE, [("gap", (0,)), ("bare", 0), ("take", 0, ("thing", 0), 0)])

    def test_a_question_is_asked_of_the_rows_before_it(self):
        self.check(text_of("ask gone 0", "gap 0", "ask gone 0", "bare 0", "ask gone 0", "gap 1", "ask gone 0"),
                   ["never", "sometimes", "always", "always"], HOUSE, [("gap", (0,)), ("bare", 0), ("gap", (1,))])

    def test_words_of_hands_at_several_rows(self):
        text = text_of("who thing 0", "who box 0", "gap 0 1", "who thing 0", "who box 0", "at thing 0 hand 1", "who thing 0",
                       "take 0 thing 0 0", "who thing 0")
        self.assertRaises(DaybookError, Daybook, text)
        text = text[:-len("\ntake 0 thing 0 0\nwho thing 0")] + "\ngive 1 thing 0 0\nwho thing 0\nwho box 0"
        lines = ["never never", "surely never", "perhaps perhaps", "surely perhaps", "perhaps surely", "surely surely", "surely perhaps"]
        self.assertEqual(results(text).split("\n"), lines)

    def test_a_broken_seal_among_the_places(self):
        text = "hands 2\nbox hand 0\nseal hand 1\nseal box 0\nlog\ngap 0 1\nwhere seal 0\nwhere seal 1\ngap 1\nbreak 0 0\nwhere seal 0"
        lines = ["box 0, gone, hand 0, hand 1", "box 0, gone", "box 0, gone, hand 0, hand 1"]
        house = House(2, (("hand", 0),), (), (("hand", 1), ("box", 0)))
        self.check(text, lines[:2] + ["gone, hand 0, hand 1"], house, [("gap", (0, 1)), ("gap", (1,)), ("break", 0, 0)])

    def test_three_hands(self):
        text = MORE + "\nwho thing 1\ngap 1 2\nwho thing 1\nwho box 2\nwhere box 2\nwhere thing 1\nwho box 1"
        lines = ["never surely never", "never surely perhaps", "never perhaps surely", "hand 1, hand 2", "box 2, hand 1, hand 2",
                 "never never never"]
        self.assertEqual(results(text), "\n".join(lines))

    def test_a_hundred_questions(self):
        self.assertEqual(results(HEAD + "\nask bare 0" * 100), "\n".join(["never"] * 100))
        rows = ["ask bare 0", "gap", "who seal 0", "where seal 0"] * 30
        text = text_of(*rows)
        self.assertEqual(Daybook(text).log(), Log(HOUSE, [("gap", ())] * 30))
        self.assertEqual(results(text), "\n".join(["never", "never never", "box 0"] * 30))

    def test_questions_behind_thirty_rows(self):
        self.assertEqual(results(HEAD + "\ngap 0" * 30 + "\nask bare 0"), "sometimes")

    def test_no_course_fits_behind_the_last_question(self):
        self.check(text_of("ask bare 0", "bare 0", "gap 0"), ["never"], HOUSE, [("bare", 0), ("gap", (0,))])
        self.check(text_of("gap 0", "who thing 0", "gone 0", "not gone 0", "gap 0"), ["perhaps never"], HOUSE,
                   [("gap", (0,)), ("gone", 0), ("not", ("gone", 0)), ("gap", (0,))])
        self.check(text_of("bare 0"), [], HOUSE, [("bare", 0)])


class Wrong(Calls):

    def wrong(self, text, row, word):
        with self.subTest(text=text):
            self.raises(DaybookError, {"row": row, "word": word}, Daybook, text)

    def wrong_row(self, text, word):
        self.wrong(text_of(text), 5, word)
        self.wrong(text_of("ask bare 0", "gap 0", text, "x"), 7, word)

    def test_no_text_of_a_log(self):
        self.wrong("", 0, 0)
        self.wrong("hands", 0, 1)
        self.wrong("hands 2\nbox hand 0", 2, 0)
        self.wrong("hands 2\nbox hand 0\nthing", 2, 1)
        self.wrong("hands 2\nthing hand 0\nbox hand 0\nlog", 2, 0)
        self.wrong(text_of(""), 5, 0)
        self.wrong(text_of("gap", "log"), 6, 0)
        self.wrong(text_of("bare 0 "), 5, 2)
        self.wrong(text_of("bare 00"), 5, 1)

    def test_questions_ahead_of_log(self):
        self.wrong("ask bare 0\nhands 2\nbox hand 0\nlog", 0, 0)
        self.wrong("hands 2\nwho box 0\nbox hand 0\nlog", 1, 0)
        self.wrong("hands 2\nbox hand 0\nwhere box 0\nlog", 2, 0)

    def test_wrong_questions(self):
        for text, word in (
            ("ask", 1), ("ask x", 1), ("ask gap", 1), ("ask give 0 thing 0 1", 1), ("ask bare", 2), ("ask bare x", 2), ("ask bare 0 0", 3),
            ("ask not", 2), ("ask not not bare 0", 2), ("ask not bare", 3), ("ask ask bare 0", 1), ("ask who box 0", 1), ("ask 0", 1),
            ("ask in 0 box", 4), ("ask at thing 0", 4), ("ask at thing 0 gone 0", 4), ("ask gone 0 ", 3), ("ask  bare 0", 1),
            ("who", 1), ("who 0", 1), ("who hand 0", 1), ("who thing", 2), ("who thing x", 2), ("who thing 00", 2), ("who thing 0 0", 3),
            ("who thing 0 ", 3), ("who bare 0", 1), ("where", 1), ("where gone 0", 1), ("where box", 2), ("where box 0 box 0", 3),
            ("where ", 1), ("Ask bare 0", 0), ("whose box 0", 0), (" who box 0", 0), ("not ask bare 0", 1), ("ask seal 0 0 0", 1),
        ):
            self.wrong_row(text, word)

    def test_question_101(self):
        for last in ("ask bare 0", "who box 0", "where box 0", "ask", "ask bare 9", "where x"):
            self.wrong(HEAD + "\nask bare 0" * 100 + "\n" + last, 105, 0)
            self.wrong(HEAD + "\ngap\nwhere box 0\nwho box 0" * 50 + "\n" + last + "\nx", 155, 0)
        self.wrong(HEAD + "\nask bare 0" * 200, 105, 0)
        self.wrong(HEAD + "\nask bare 0" * 99 + "\nask", 104, 1)
        self.wrong(HEAD + "\nask bare 0" * 100 + "\ngap x", 105, 1)
        self.wrong("hands 9\nlog" + "\nask bare 7" * 101, 102, 0)

    def test_wrong_house(self):
        for text, part, index in (
            ("hands 0\nbox hand 0\nlog", "hands", 0), ("hands 2\nlog\nbare 0\nask bare 0", "boxes", 0),
            ("hands 2\nbox hand 0\nseal box 0\nseal box 0\nlog\nask gone 7", "seals", 1),
            ("hands 2\nbox hand 0\nthing box 1\nlog\nbare 0\nask bare 0", "things", 0),
        ):
            self.raises(InvalidHouse, {"part": part, "index": index}, Daybook, text)
            self.wrong(text + "\nask", len(text.split("\n")), 1)

    def test_wrong_rows(self):
        for row in ("bare 1", "gap 1 0", "give 0 thing 0 0", "put 0 seal 0 0", "in 0 seal 0", "take 0 box 0 0", "gone 1", "not gone 1"):
            self.raises(InvalidLog, {"index": 0}, Daybook, text_of(row))
            self.raises(InvalidLog, {"index": 0}, Daybook, text_of("ask bare 0", row, "who box 9"))
            self.raises(InvalidLog, {"index": 1}, Daybook, text_of("gap", "ask bare 0", "who box 0", row, "bare 1"))
            self.wrong(text_of(row, "ask bare"), 6, 2)

    def test_wrong_questions_of_what_does_not_exist(self):
        for row in (
            "ask bare 1", "ask gone 1", "ask not gone 1", "ask at thing 1 hand 0", "ask at thing 0 hand 2", "ask at thing 0 box 1",
            "ask in 1", "ask in 0 seal 0", "ask in 0 thing 0 box 0", "ask in 0 thing 0 thing 0", "ask not in 0 thing 0 thing 0",
            "who box 1", "who seal 1", "who thing 1", "where box 99", "where seal 1", "where thing 7",
        ):
            self.raises(InvalidLog, {"index": 0}, Daybook, text_of(row))
            self.raises(InvalidLog, {"index": 0}, Daybook, text_of("ask bare 0", row, "bare 1"))
            self.raises(InvalidLog, {"index": 2}, Daybook, text_of("gap", "who box 0", "gap 0", "who box 0", row, "gap 9", row))
            self.raises(InvalidLog, {"index": 1}, Daybook, text_of("gap 0", row))
            self.raises(InvalidLog, {"index": 30}, Daybook, HEAD + "\ngap" * 30 + "\n" + row + "\nbare 0")
            self.raises(InvalidLog, {"index": 3}, Daybook, HEAD + "\ngap" * 3 + "\n" + row + "\ngap" * 30)

    def test_row_31(self):
        self.raises(InvalidLog, {"index": 30}, Daybook, HEAD + "\ngap" * 31)
        self.raises(InvalidLog, {"index": 30}, Daybook, HEAD + "\nask bare 0\ngap" * 31 + "\nask bare 9")
        self.raises(InvalidLog, {"index": 30}, Daybook, HEAD + "\ngap" * 30 + "\nask bare 0\nbare 9")
        self.raises(InvalidLog, {"index": 12}, Daybook, HEAD + "\ngap" * 12 + "\nwho box 1" + "\ngap" * 20)

    def test_no_course_fits_ahead_of_a_question(self):
        self.wrong(text_of("bare 0", "ask bare 0"), 6, 0)
        self.wrong(text_of("bare 0", "gap", "ask bare 0"), 7, 0)
        self.wrong(text_of("ask bare 0", "bare 0", "gap 0 1", "gap", "who box 0", "ask bare 0"), 9, 0)
        self.wrong(text_of("gap 0", "where box 0", "bare 0", "where box 0", "not bare 0", "where box 0"), 10, 0)
        self.wrong(text_of("gone 0", "bare 0", "break 0 0", "where box 0"), 8, 0)
        self.wrong(text_of("gone 0", "where box 0"), 6, 0)

    def test_order_of_errors(self):
        impossible = ("bare 0", "ask bare 0")
        self.raises(InvalidLog, {"index": 1}, Daybook, text_of(*impossible, "ask gone 9"))
        self.raises(InvalidLog, {"index": 1}, Daybook, text_of(*impossible, "bare 9"))
        self.raises(InvalidLog, {"index": 30}, Daybook, text_of(*impossible) + "\ngap" * 30)
        self.wrong(text_of(*impossible, "bare 9", "ask bare 00"), 8, 2)
        self.raises(InvalidHouse, {"part": "hands", "index": 0}, Daybook, "hands 7" + text_of(*impossible)[7:])


if __name__ == "__main__":
    unittest.main()
