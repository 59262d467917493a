"""The errors of the interface: their classes and attributes."""

import unittest

from hearsayways import errors
from hearsayways.errors import BadLog, BadNet, BadText, BadWeaving, HearsayError

NAMES = [
    "BadNet", "BadTie", "BadState", "BadDeed", "BadWeaving", "BadWish", "TooLarge", "BadPrices", "BadChoice",
    "BadHost", "BadHops", "Unlike", "BadLog", "NothingDone", "BadRates", "BadText",
]


class ErrorClasses(unittest.TestCase):
    def test_all_derive_directly_from_the_one(self):
        self.assertEqual(HearsayError.__bases__, (ValueError,))
        for name in NAMES:
            with self.subTest(name):
                self.assertEqual(getattr(errors, name).__bases__, (HearsayError,))
                self.assertEqual(getattr(errors, name).__module__, "hearsayways.errors")

    def test_there_are_no_others(self):
        self.assertEqual(sorted(made.__name__ for made in HearsayError.__subclasses__()), sorted(NAMES))

    def test_attributes_are_set(self):
        for part in ("hosts", None):
            self.assertEqual(BadNet(part).part, part)
        for index in (0, 3, None):
            self.assertEqual(BadWeaving(index).index, index)
            self.assertEqual(BadLog(index).index, index)
        self.assertEqual(BadText(2).row, 2)

    def test_each_can_be_raised_and_caught_as_the_one(self):
        for name in NAMES:
            with self.subTest(name), self.assertRaises(HearsayError):
                raise getattr(errors, name)("word")
