"""What a log shows of its end (point 11)."""

import unittest

from sealwatch.errors import NoCourse, UnknownBox, UnknownHand, UnknownItem, UnknownSeal
from sealwatch.houses import House
from sealwatch.logs import Log
from sealwatch.questions import answer, possible_places

HOUSE = House(3, (("hand", 0), ("box", 0)), (("box", 1), ("hand", 1)), (("box", 1), ("hand", 0)))
NEVER = Log(HOUSE, [("gone", 0)])


class Places(unittest.TestCase):

    def test_without_rows(self):
        log = Log(HOUSE, [])
        for item, place in ((("box", 1), ("box", 0)), (("thing", 1), ("hand", 1)), (("seal", 0), ("box", 1))):
            self.assertEqual(possible_places(log, item), [place])

    def test_ascending(self):
        log = Log(HOUSE, [("gap", (0, 1))])
        self.assertEqual(possible_places(log, ("seal", 0)), [("box", 1), ("gone", 0)])
        seal = [("box", 0), ("box", 1), ("gone", 0), ("hand", 0), ("hand", 1)]
        self.assertEqual(possible_places(log, ("seal", 1)), seal)
        self.assertEqual(possible_places(log, ("box", 0)), [("box", 1), ("hand", 0), ("hand", 1)])
        self.assertEqual(possible_places(log, ("thing", 0)), [("box", 0), ("box", 1), ("hand", 0), ("hand", 1)])

    def test_what_is_seen_later_tells(self):
        log = Log(HOUSE, [("gap", (0, 1)), ("not", ("gone", 0))])
        self.assertEqual(possible_places(log, ("thing", 0)), [("box", 1)])

    def test_errors(self):
        for item in (("box", 2), ("thing", 2), ("seal", 2), ("hand", 0)):
            self.assertRaises(UnknownItem, possible_places, NEVER, item)
        self.assertRaises(NoCourse, possible_places, NEVER, ("box", 0))

    def test_lists_may_be_modified(self):
        log = Log(HOUSE, [])
        possible_places(log, ("box", 0)).clear()
        self.assertEqual(possible_places(log, ("box", 0)), [("hand", 0)])


class Answers(unittest.TestCase):

    def check(self, log, sight, word):
        self.assertEqual(answer(log, sight), word)
        other = {"always": "never", "never": "always", "sometimes": "sometimes"}[word]
        if sight[0] != "not":
            self.assertEqual(answer(log, ("not", sight)), other)

    def test_words(self):
        log = Log(HOUSE, [("gap", (0,))])
        self.check(log, ("bare", 1), "sometimes")
        self.check(log, ("gone", 0), "sometimes")
        self.check(log, ("at", ("thing", 1), ("hand", 1)), "always")
        self.check(log, ("in", 0, (("box", 1),)), "sometimes")
        self.check(log, ("in", 0, (("thing", 1),)), "never")
        self.check(log, ("at", ("box", 0), ("hand", 0)), "sometimes")
        self.check(log, ("at", ("box", 0), ("hand", 1)), "never")
        self.check(log, ("at", ("box", 0), ("box", 0)), "never")
        self.check(log, ("in", 0, (("box", 0),)), "never")

    def test_told_together(self):
        """What is in box 1 came there only behind the break of seal 0."""
        log = Log(HOUSE, [("gap", (0,)), ("in", 1, ())])
        self.check(log, ("gone", 0), "always")

    def test_errors(self):
        for error, sight in (
            (UnknownItem, ("at", ("thing", 2), ("hand", 3))), (UnknownHand, ("at", ("thing", 0), ("hand", 3))),
            (UnknownBox, ("at", ("thing", 0), ("box", 2))), (UnknownBox, ("bare", 2)),
            (UnknownBox, ("in", 2, (("seal", 0),))), (UnknownItem, ("in", 0, (("seal", 0),))),
            (UnknownItem, ("in", 0, (("thing", 0), ("box", 1)))), (UnknownSeal, ("gone", 2)),
        ):
            self.assertRaises(error, answer, NEVER, sight)
            self.assertRaises(error, answer, NEVER, ("not", sight))
        self.assertRaises(NoCourse, answer, NEVER, ("bare", 0))


if __name__ == "__main__":
    unittest.main()
