"""Logs as lists of integers (point 29)."""

import unittest

from calls import Calls
from sealwatch.codec import decode_log, encode_log
from sealwatch.errors import DecodeError, InvalidHouse, InvalidLog
from sealwatch.houses import House
from sealwatch.logs import Log

HOUSE = House(3, (("hand", 0), ("box", 0), ("hand", 2)), (("box", 1), ("hand", 1)), (("box", 2),))
HEAD = [115, 3, 3, 0, 0, 1, 0, 0, 2, 2, 1, 1, 0, 1, 1, 1, 2]
SMALL = [115, 1, 1, 0, 0, 0, 0]
ROWS = (
    (("give", 0, ("thing", 1), 2), [0, 0, 2, 1, 2]),
    (("give", 2, ("seal", 0), 0), [0, 2, 1, 0, 0]),
    (("put", 0, ("box", 1), 2), [1, 0, 0, 1, 2]),
    (("take", 1, ("thing", 1), 0), [2, 1, 2, 1, 0]),
    (("seal", 0, 1, 0), [3, 0, 1, 0]),
    (("break", 2, 1), [4, 2, 1]),
    (("at", ("seal", 0), ("box", 1)), [5, 1, 0, 1, 1]),
    (("at", ("thing", 1), ("hand", 2)), [5, 2, 1, 0, 2]),
    (("at", ("box", 2), ("box", 2)), [5, 0, 2, 1, 2]),
    (("bare", 1), [6, 1]),
    (("in", 1, (("box", 2), ("thing", 0))), [7, 1, 2, 0, 2, 2, 0]),
    (("in", 2, ()), [7, 2, 0]),
    (("gone", 0), [8, 0]),
    (("not", ("at", ("thing", 0), ("box", 2))), [9, 5, 2, 0, 1, 2]),
    (("not", ("bare", 1)), [9, 6, 1]),
    (("not", ("in", 0, (("thing", 1),))), [9, 7, 0, 1, 2, 1]),
    (("not", ("gone", 0)), [9, 8, 0]),
    (("gap", ()), [10, 0]),
    (("gap", (1,)), [10, 1, 1]),
    (("gap", (0, 1, 2)), [10, 3, 0, 1, 2]),
)


def closed(numbers):
    """The numbers with their checksum."""
    total = 9
    for number in numbers:
        total = (total * 13 + number) % 239
    return numbers + [total]


class Encoded(Calls):

    def check(self, log, numbers):
        self.returns(closed(numbers), encode_log, log)
        self.returns(log, decode_log, closed(numbers))
        self.assertIs(type(decode_log(closed(numbers)).rows), tuple)
        self.assertTrue(all(type(number) is int and 0 <= number <= 255 for number in encode_log(log)))

    def test_no_rows(self):
        self.check(Log(HOUSE, []), HEAD + [0])
        self.check(Log(House(1, (("hand", 0),), (), ()), []), SMALL + [0])
        self.check(Log(House(4, (("hand", 3),), (("box", 0),), ()), []), [115, 4, 1, 0, 3, 1, 1, 0, 0, 0])

    def test_checksum(self):
        self.assertEqual(encode_log(Log(House(1, (("hand", 0),), (), ()), [])), [115, 1, 1, 0, 0, 0, 0, 0, 169])
        self.assertEqual(closed([]), [9])

    def test_each_kind_of_row(self):
        for row, numbers in ROWS:
            with self.subTest(row=row):
                self.check(Log(HOUSE, [row]), HEAD + [1] + numbers)

    def test_all_rows(self):
        self.check(Log(HOUSE, [row for row, _ in ROWS]), HEAD + [len(ROWS)] + [number for _, row in ROWS for number in row])

    def test_thirty_rows(self):
        self.check(Log(HOUSE, [("gap", (0, 2))] * 30), HEAD + [30] + [10, 2, 0, 2] * 30)


class Decoded(Calls):
    """Lists that are none."""

    def wrong(self, values, offset):
        with self.subTest(values=values):
            self.raises(DecodeError, {"offset": offset}, decode_log, values)

    def test_items_are_missing(self):
        whole = closed(HEAD + [len(ROWS)] + [number for _, row in ROWS for number in row])
        for length in range(len(whole)):
            self.wrong(whole[:length], length)

    def test_limits_at_each_place(self):
        """For each item of a whole list the greatest number that can be there, or two limits, or None for any up to 99."""
        limits = [(115, 115), 99, 99, 1, 99, 99, 1, 99, 99, 1, 99, 99,
                  0, 99, 2, 99, 99, 1, 99, 2, 99, 99, 3, 99, 99, 99, 4, 99, 99, 5, 2, 99, 1, 99, 6, 99,
                  7, 99, 99, 2, 99, 8, 99, 9, (5, 8), 99, 10, 99, 99]
        values = [115, 1, 1, 0, 0, 1, 0, 0, 1, 0, 0, 10,
                  0, 0, 2, 0, 0, 1, 0, 2, 0, 0, 3, 0, 0, 0, 4, 0, 0, 5, 2, 0, 0, 0, 6, 0, 7, 0, 1, 2, 0, 8, 0, 9, 6, 0, 10, 1, 0]
        self.assertEqual(len(limits), len(values))
        whole = closed(values)
        self.raises(InvalidLog, {"index": 0}, decode_log, whole)
        for offset, limit in enumerate(limits):
            low, high = limit if isinstance(limit, tuple) else (0, limit)
            if offset in (12, 17, 22, 26, 29, 34, 36, 41, 43, 46):
                high = 10
            for value in (-1, low - 1, high + 1, 100, 255, 10 ** 20, True, False, 0.0, float(values[offset]), "0", "", None, (), [0]):
                self.wrong(whole[:offset] + [value] + whole[offset + 1:], offset)
                self.wrong(whole[:offset] + [value], offset)

    def test_numbers_up_to_99(self):
        self.raises(InvalidHouse, {"part": "hands", "index": 0}, decode_log, closed([115, 99] + SMALL[2:] + [0]))
        self.raises(InvalidHouse, {"part": "boxes", "index": 0}, decode_log, closed([115, 1, 1, 0, 99, 0, 0, 0]))
        self.raises(InvalidHouse, {"part": "boxes", "index": 3}, decode_log, closed([115, 1, 99] + [0, 0] * 99 + [0, 0, 0]))
        self.raises(InvalidHouse, {"part": "things", "index": 4}, decode_log, closed(SMALL[:5] + [99] + [0, 0] * 99 + [0, 0]))
        self.raises(InvalidHouse, {"part": "seals", "index": 3}, decode_log, closed(SMALL[:6] + [99] + [0, 0] * 99 + [0]))
        self.raises(InvalidLog, {"index": 30}, decode_log, closed(SMALL + [99] + [6, 0] * 99))
        self.raises(InvalidLog, {"index": 0}, decode_log, closed(SMALL + [1, 7, 0, 99] + [0, 0] * 99))
        self.raises(InvalidLog, {"index": 0}, decode_log, closed(SMALL + [1, 10, 99] + [0] * 99))
        self.raises(InvalidLog, {"index": 0}, decode_log, closed(SMALL + [1, 6, 99]))

    def test_wrong_checksum(self):
        whole = closed(SMALL + [1, 6, 0])
        self.assertEqual(whole[-1], 128)
        for value in (0, 127, 129, 128 + 239, -111, 255, 128.0, "128", None, True, False, [128]):
            self.wrong(whole[:-1] + [value], 10)
            self.wrong(whole[:-1] + [value, 5], 10)

    def test_a_boolean_is_no_checksum(self):
        """Of some lists the checksum is 0 or 1."""
        found = {}
        for hands in range(100):
            for number in range(100):
                values = closed([115, hands] + SMALL[2:] + [1, 6, number])
                found.setdefault(values[-1], values)
        for total in (0, 1):
            self.raises(InvalidHouse if found[total][1] not in range(1, 5) else InvalidLog,
                        {"part": "hands", "index": 0} if found[total][1] not in range(1, 5) else {"index": 0},
                        decode_log, found[total])
            self.wrong(found[total][:-1] + [bool(total)], 10)
            self.wrong(found[total][:-1] + [float(total)], 10)

    def test_an_item_behind_the_checksum(self):
        whole = closed(SMALL + [1, 6, 0])
        for value in (0, 128, None, "x"):
            self.wrong(whole + [value], 11)
            self.wrong(whole + [value, value], 11)

    def test_no_items(self):
        self.wrong([], 0)

    def test_first_item(self):
        for value in (0, 114, 116, 115.0, "115", None, True):
            self.wrong([value] + SMALL[1:] + [0, 0], 0)
            self.wrong([value], 0)

    def test_sights_behind_not(self):
        for value in (0, 4, 9, 10, 11):
            self.wrong(closed(SMALL + [1, 9, value, 0]), 9)

    def test_decode_error_ahead_of_others(self):
        bad_house = [115, 0, 0, 0, 0]
        self.raises(InvalidHouse, {"part": "hands", "index": 0}, decode_log, closed(bad_house + [1, 6, 9]))
        self.wrong(closed(bad_house + [1, 6, 9])[:-1] + [239], 8)
        self.wrong(closed(bad_house + [1, 11]), 6)
        self.wrong(closed(bad_house + [1, 6, 9]) + [0], 9)
        self.raises(InvalidHouse, {"part": "boxes", "index": 0}, decode_log, closed([115, 1, 0, 0, 0, 1, 6, 9]))
        self.raises(InvalidLog, {"index": 1}, decode_log, closed(SMALL + [3, 6, 0, 6, 9, 6, 9]))
        self.wrong(closed(SMALL + [3, 6, 0, 6, 9, 6, 100]), 13)

    def test_invalid_rows(self):
        for row in (
            [1, 0, 1, 0, 2], [2, 0, 1, 0, 2], [7, 0, 1, 1, 0], [1, 0, 0, 0, 0], [0, 0, 2, 0, 0], [0, 3, 2, 0, 0], [6, 3], [8, 1],
            [9, 8, 1], [10, 2, 1, 0], [10, 2, 0, 0], [7, 0, 2, 2, 1, 0, 1], [7, 0, 2, 2, 0, 2, 0], [5, 1, 0, 1, 3],
        ):
            self.raises(InvalidLog, {"index": 0}, decode_log, closed(HEAD + [1] + row))
            self.raises(InvalidLog, {"index": 1}, decode_log, closed(HEAD + [3, 6, 0] + row + [6, 9]))


if __name__ == "__main__":
    unittest.main()
