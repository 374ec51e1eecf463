"""The error classes of the interface."""

import unittest

from sealwatch import errors

ATTRIBUTES = {
    "InvalidHouse": ("part", "index"), "InvalidHands": ("index",), "InvalidNumber": (), "InvalidLog": ("index",),
    "InvalidCourse": (), "UnknownHand": (), "UnknownItem": (), "UnknownBox": (), "UnknownSeal": (), "NotHeld": (),
    "NotInside": (), "IsSealed": (), "NotSealed": (), "InsideItself": (), "NoCourse": (),
    "InvalidCheck": ("index",), "InvalidTeller": ("index",), "InvalidLogs": ("index",), "InvalidJoin": ("index",),
    "UnknownRow": (), "InvalidRound": ("index",), "InvalidName": (), "UnknownMark": (),
    "InvalidOperation": ("index",), "InvalidText": ("row", "word"), "DecodeError": ("offset",),
    "DaybookError": ("row", "word"),
}


class Errors(unittest.TestCase):

    def test_base(self):
        self.assertEqual(errors.WatchError.__bases__, (ValueError,))

    def test_direct_subclasses(self):
        for name in ATTRIBUTES:
            self.assertEqual(getattr(errors, name).__bases__, (errors.WatchError,), name)

    def test_no_other_classes(self):
        found = [name for name, value in vars(errors).items() if isinstance(value, type)]
        self.assertEqual(sorted(found), sorted(list(ATTRIBUTES) + ["WatchError"]))

    def test_attributes(self):
        for name, attributes in ATTRIBUTES.items():
            worths = list(range(3, 3 + len(attributes)))
            error = getattr(errors, name)(*worths)
            self.assertEqual([getattr(error, attribute) for attribute in attributes], worths, name)
            self.assertEqual(sorted(vars(error)), sorted(attributes), name)


if __name__ == "__main__":
    unittest.main()
