"""What many tests ask of calls: their errors, and that they change nothing."""

import copy
import unittest


class Calls(unittest.TestCase):

    def raises(self, error, attributes, function, *arguments):
        """A call raises just this error, with these attributes, twice, and changes no argument."""
        handed = copy.deepcopy(arguments)
        for _ in range(2):
            with self.assertRaises(error) as caught:
                function(*handed)
            self.assertEqual(type(caught.exception), error)
            self.assertEqual(vars(caught.exception), attributes)
        self.assertEqual(handed, arguments)

    def returns(self, worth, function, *arguments):
        """A call returns this, a second one the same; a list is a new one each time, and no argument is changed."""
        handed = copy.deepcopy(arguments)
        found = function(*handed)
        self.assertEqual(found, worth)
        self.assertIs(type(found), type(worth))
        self.assertEqual(handed, arguments)
        if isinstance(found, list):
            found.append(None)
            again = function(*handed)
            self.assertIsNot(again, found)
            found = again
        else:
            found = function(*handed)
        self.assertEqual(found, worth)
        self.assertEqual(handed, arguments)
