"""Texts of logs (point 27)."""

import unittest

from calls import Calls
from sealwatch.errors import InvalidHouse, InvalidLog, InvalidText
from sealwatch.houses import House
from sealwatch.logs import Log
from sealwatch.notation import format_log, parse_log

HOUSE = House(3, (("hand", 0), ("box", 0), ("hand", 2)), (("box", 1), ("hand", 1), ("box", 0)), (("box", 0), ("hand", 2), ("box", 2)))
HEAD = (
    "hands 3\nbox hand 0\nbox box 0\nbox hand 2\nthing box 1\nthing hand 1\nthing box 0\nseal box 0\nseal hand 2\nseal box 2\nlog"
)
ROWS = (
    (("give", 0, ("thing", 1), 2), "give 0 thing 1 2"),
    (("give", 2, ("seal", 1), 0), "give 2 seal 1 0"),
    (("give", 0, ("box", 0), 1), "give 0 box 0 1"),
    (("put", 0, ("box", 1), 2), "put 0 box 1 2"),
    (("put", 1, ("thing", 2), 0), "put 1 thing 2 0"),
    (("take", 0, ("thing", 1), 2), "take 0 thing 1 2"),
    (("take", 0, ("box", 1), 0), "take 0 box 1 0"),
    (("seal", 0, 1, 2), "seal 0 1 2"),
    (("break", 0, 1), "break 0 1"),
    (("at", ("seal", 0), ("box", 1)), "at seal 0 box 1"),
    (("at", ("thing", 2), ("hand", 0)), "at thing 2 hand 0"),
    (("at", ("box", 1), ("box", 1)), "at box 1 box 1"),
    (("bare", 1), "bare 1"),
    (("in", 1, (("box", 2), ("thing", 0))), "in 1 box 2 thing 0"),
    (("in", 0, (("thing", 1),)), "in 0 thing 1"),
    (("in", 1, ()), "in 1"),
    (("gone", 0), "gone 0"),
    (("not", ("at", ("thing", 0), ("box", 2))), "not at thing 0 box 2"),
    (("not", ("bare", 1)), "not bare 1"),
    (("not", ("in", 0, ())), "not in 0"),
    (("not", ("in", 0, (("box", 1), ("thing", 2)))), "not in 0 box 1 thing 2"),
    (("not", ("gone", 2)), "not gone 2"),
    (("gap", ()), "gap"),
    (("gap", (1,)), "gap 1"),
    (("gap", (0, 1, 2)), "gap 0 1 2"),
)


class Written(Calls):

    def check(self, log, text):
        self.returns(text, format_log, log)
        self.returns(log, parse_log, text)
        self.assertIs(type(parse_log(text).rows), tuple)

    def test_no_rows(self):
        self.check(Log(HOUSE, []), HEAD)

    def test_no_things_and_no_seals(self):
        self.check(Log(House(1, (("hand", 0),), (), ()), []), "hands 1\nbox hand 0\nlog")
        self.check(Log(House(4, (("hand", 3),), (), (("hand", 1),)), []), "hands 4\nbox hand 3\nseal hand 1\nlog")
        self.check(Log(House(4, (("hand", 3),), (("box", 0),), ()), []), "hands 4\nbox hand 3\nthing box 0\nlog")

    def test_each_kind_of_row(self):
        for row, text in ROWS:
            with self.subTest(text=text):
                self.check(Log(HOUSE, [row]), f"{HEAD}\n{text}")

    def test_all_rows(self):
        self.check(Log(HOUSE, [row for row, _ in ROWS]), "\n".join([HEAD] + [text for _, text in ROWS]))

    def test_thirty_rows(self):
        self.check(Log(HOUSE, [("gap", (0, 2))] * 30), HEAD + "\ngap 0 2" * 30)

    def test_rows_that_no_course_fits(self):
        self.check(Log(HOUSE, [("gone", 0), ("break", 2, 0)]), HEAD + "\ngone 0\nbreak 2 0")


class Read(Calls):
    """Texts that are none."""

    def wrong(self, text, row, word):
        with self.subTest(text=text):
            self.raises(InvalidText, {"row": row, "word": word}, parse_log, text)

    def wrong_row(self, text, word, ahead=""):
        """A row of the log that is wrong at a word, alone and between others."""
        head = "hands 2\nbox hand 0\nthing box 0\nseal box 0\nlog"
        self.wrong(f"{head}\n{text}", 5, word)
        self.wrong(f"{head}\nbare 0\ngap\n{text}\nbare x\ny", 7, word)
        self.wrong(f"hands 0\nlog\n{text}", 2, word)

    def test_empty_text(self):
        self.wrong("", 0, 0)

    def test_first_row(self):
        for text, word in (
            ("x", 0), ("hand 2", 0), ("Hands 2", 0), ("log", 0), ("box hand 0", 0), (" hands 2", 0), ("hands", 1), ("hands ", 1),
            ("hands x", 1), ("hands  2", 1), ("hands 2 ", 2), ("hands 2 3", 2), ("hands 2 log", 2), ("hands 02", 1), ("hands\t2", 0),
            ("gap", 0), ("hands -1", 1), ("hands 2\r", 1),
        ):
            self.wrong(text, 0, word)
            self.wrong(f"{text}\nbox hand 0\nlog", 0, word)
            self.wrong(f"{text}\n\n", 0, word)

    def test_numbers(self):
        for number in ("00", "01", "09", "100", "123", "-1", "-0", "+1", "1.0", "x", "1x", "x1", "", "0x1", "1_0", "\u00b2",
                       "\u0661", "\uff11", "None", "1e1", "000", "1\t"):
            self.wrong(f"hands {number}\nbox hand 0\nlog", 0, 1)
            self.wrong(f"hands 2\nbox hand {number}\nlog", 1, 2)
            self.wrong(f"hands 2\nbox hand 0\nthing box {number}\nlog", 2, 2)
            self.wrong_row(f"bare {number}", 1)
            self.wrong_row(f"give 0 thing {number} 1", 3)
            self.wrong_row(f"gap 0 {number}", 2)
            self.wrong_row(f"in 0 thing {number} box 0", 3)
            self.wrong_row(f"not gone {number}", 2)
        for number in ("0", "9", "10", "99", "50"):
            self.raises(InvalidLog, {"index": 0}, parse_log, f"hands 1\nbox hand 0\nlog\ngone {number}")

    def test_house_rows(self):
        for text, word in (
            ("", 0), ("bare 0", 0), ("gap", 0), ("give 0 box 0 1", 0), ("hands 2", 0), ("boxes", 0), (" log", 0), ("box", 1),
            ("box ", 1), ("box 0", 1), ("box seal 0", 1), ("box thing 0", 1), ("box gone 0", 1), ("box hand", 2), ("box hand x", 2),
            ("box hand 0 0", 3), ("box hand 0 ", 3), ("box  hand 0", 1), ("thing", 1), ("thing hand", 2), ("thing hand 1 x", 3),
            ("seal", 1), ("seal box", 2), ("seal 0 1 2", 1), ("seal box 0 hand", 3), ("log ", 1), ("log 0", 1), ("log log", 1),
        ):
            self.wrong(f"hands 2\n{text}", 1, word)
            self.wrong(f"hands 2\n{text}\nbox hand x\nlog", 1, word)

    def test_first_word_out_of_its_turn(self):
        box, thing, seal = "box hand 0", "thing hand 0", "seal hand 0"
        for rows in ([thing, box], [seal, box], [seal, thing], [box, seal, thing], [thing, seal, box], [box, thing, box],
                     [box, thing, thing, seal, seal, thing], ["log", box], [box, "log", thing], ["log", "hands 2"],
                     [box, "log", "seals"], [box, "log", "log"], [box, "log", "gap", "log"]):
            self.wrong("\n".join(["hands 2"] + rows), len(rows), 0)
            self.wrong("\n".join(["hands 2"] + rows + ["x"]), len(rows), 0)

    def test_log_is_missing(self):
        for rows in (["hands 2"], ["hands 2", "box hand 0"], ["hands 2", "box hand 0", "thing box 0", "seal box 0"], ["hands 0"]):
            self.wrong("\n".join(rows), len(rows), 0)

    def test_wrong_words_ahead_of_a_missing_log(self):
        self.wrong("hands 2\nbox hand", 1, 2)
        self.wrong("hands 2\nbox hand 0 0", 1, 3)
        self.wrong("hands 2\nbox hand 0\nbare 0", 2, 0)
        self.wrong("hands\nbox hand 0", 0, 1)

    def test_empty_rows(self):
        self.wrong("\nhands 2\nlog", 0, 0)
        self.wrong("hands 2\n\nbox hand 0\nlog", 1, 0)
        self.wrong("hands 2\nbox hand 0\nlog\n", 3, 0)
        self.wrong("hands 2\nbox hand 0\nlog\n\ngap", 3, 0)
        self.wrong("hands 2\nbox hand 0\nlog\ngap\n", 4, 0)
        self.wrong("hands 2\n", 1, 0)
        self.wrong("\n", 0, 0)

    def test_rows_that_are_wrong(self):
        for text, word in (
            ("x", 0), ("hands 2", 0), ("box hand 0", 0), ("thing box 0", 0), ("Bare 0", 0), ("ask bare 0", 0), ("who box 0", 0),
            ("where box 0", 0), ("0", 0),
            ("give", 1), ("give x", 1), ("give box 0 1", 1), ("give 0", 2), ("give 0 1", 2), ("give 0 hand 0 1", 2), ("give 0 thing", 3),
            ("give 0 thing 0", 4), ("give 0 thing 0 x", 4), ("give 0 thing 0 hand 1", 4), ("give 0 thing 0 1 0", 5),
            ("put", 1), ("put 0 gone 0 1", 2), ("put 0 thing 0", 4), ("put 0 thing 0 box 1", 4), ("put 0 box 0 1 1", 5),
            ("take", 1), ("take 0", 2), ("take 0 thing x 1", 3), ("take 0 thing 0 1 x", 5),
            ("seal", 1), ("seal 0", 2), ("seal 0 0", 3), ("seal 0 box 0 1", 2), ("seal 0 0 0 0", 4), ("seal hand 0", 1),
            ("break", 1), ("break 0", 2), ("break 0 box 0", 2), ("break 0 0 0", 3),
            ("at", 1), ("at 0", 1), ("at hand 0", 1), ("at seal", 2), ("at seal 0", 3), ("at seal 0 seal 0", 3), ("at seal 0 gone 0", 3),
            ("at seal 0 thing 0", 3), ("at seal 0 box", 4), ("at seal 0 box x", 4), ("at seal 0 box 0 0", 5), ("at gone 0", 1),
            ("bare", 1), ("bare box 0", 1), ("bare 0 0", 2), ("bare 0 bare 0", 2),
            ("in", 1), ("in box 0", 1), ("in 0 0", 2), ("in 0 hand 0", 2), ("in 0 box", 3), ("in 0 box 0 thing", 5),
            ("in 0 box 0 0", 4), ("in 0 thing 0 not", 4), ("in 0 thing x", 3),
            ("gone", 1), ("gone seal 0", 1), ("gone 0 0", 2),
            ("not", 1), ("not x", 1), ("not not bare 0", 1), ("not not", 1), ("not gap", 1), ("not give 0 thing 0 1", 1), ("not 0", 1),
            ("not bare", 2), ("not bare 0 0", 3), ("not at seal 0 hand", 5), ("not in 0 box", 4), ("not bare not", 2), ("not seal 0 0 0", 1),
            ("gap x", 1), ("gap hand 0", 1), ("gap 0 hand 1", 2), ("gap 0 x 1", 2),
        ):
            self.wrong_row(text, word)

    def test_spaces(self):
        for text, word in (
            (" bare 0", 0), ("bare  0", 1), ("bare 0 ", 2), ("bare ", 1), (" ", 0), ("gap ", 1), ("gap  0", 1), ("gap 0 ", 2),
            ("gap 0  1", 2), ("in 0 ", 2), ("in 0  box 0", 2), ("in 0 box 0 ", 4), ("in 0 box  0", 3), ("not  bare 0", 1),
            ("not ", 1), ("give 0 thing 0  1", 4), ("give 0 thing 0 1 ", 5), ("  ", 0), ("bare\t0", 0), ("bare 0\t", 1), ("bare 0\r", 1),
        ):
            self.wrong_row(text, word)

    def test_wrong_house(self):
        for text, part, index in (
            ("hands 0\nbox hand 0\nlog", "hands", 0), ("hands 5\nbox hand 0\nlog", "hands", 0), ("hands 2\nlog", "boxes", 0),
            ("hands 2\nbox box 0\nlog", "boxes", 0), ("hands 2\nbox hand 0\nbox hand 2\nlog\nbare 9", "boxes", 1),
            ("hands 2\nbox hand 0\nbox hand 0\nbox hand 0\nbox hand 0\nlog", "boxes", 3),
            ("hands 2\nbox hand 0\nthing box 1\nlog", "things", 0), ("hands 2\nbox hand 0" + "\nthing box 0" * 5 + "\nlog", "things", 4),
            ("hands 2\nbox hand 0\nseal box 0\nseal box 0\nlog", "seals", 1), ("hands 99\nlog", "hands", 0),
        ):
            self.raises(InvalidHouse, {"part": part, "index": index}, parse_log, text)
            self.wrong(text + "\nbare", len(text.split("\n")), 1)

    def test_wrong_log(self):
        for text in (
            "put 0 seal 0 0", "take 0 seal 0 0", "in 0 seal 0", "put 0 box 0 0", "take 0 box 0 0", "give 0 thing 0 0", "give 2 thing 0 0",
            "give 0 thing 1 1", "bare 1", "gone 1", "not gone 1", "at seal 0 box 1", "gap 1 0", "gap 0 0", "gap 2",
            "in 0 thing 0 box 0", "in 0 thing 0 thing 0", "seal 0 0 1", "break 0 1", "in 0 thing 0 seal 0", "not in 0 seal 0",
        ):
            head = "hands 2\nbox hand 0\nthing box 0\nseal box 0\nlog"
            self.raises(InvalidLog, {"index": 0}, parse_log, f"{head}\n{text}")
            self.raises(InvalidLog, {"index": 2}, parse_log, f"{head}\nbare 0\ngap\n{text}\nbare 7")
            self.raises(InvalidText, {"row": 6, "word": 0}, parse_log, f"{head}\n{text}\nx")
            self.raises(InvalidHouse, {"part": "seals", "index": 1}, parse_log, f"{head[:-4]}\nseal box 0\nlog\n{text}")
        self.raises(InvalidLog, {"index": 30}, parse_log, "hands 1\nbox hand 0\nlog" + "\ngap" * 31)
        self.raises(InvalidLog, {"index": 30}, parse_log, "hands 1\nbox hand 0\nlog" + "\ngap" * 200)
        self.raises(InvalidLog, {"index": 12}, parse_log, "hands 1\nbox hand 0\nlog" + "\ngap" * 12 + "\nbare 1" * 30)


if __name__ == "__main__":
    unittest.main()
