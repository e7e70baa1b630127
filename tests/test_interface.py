"""The interface: names, arguments and kinds."""

import inspect
import unittest

from warebids import bids, errors, paying
from warebids.errors import BidError, NoBid, NoWares

BIDS = [[9, 6], [7], [4, 4], []]
VALUES = [[9, 6, 1], [8], [4, 4], [2]]


class Names(unittest.TestCase):
    def arguments(self, function):
        return list(inspect.signature(function).parameters)

    def test_arguments(self):
        self.assertEqual(self.arguments(bids.dealt), ["bids", "wares"])
        self.assertEqual(self.arguments(bids.first_left), ["bids", "wares"])
        self.assertEqual(self.arguments(bids.worth), ["bids", "counts"])
        self.assertEqual(self.arguments(paying.paid), ["bids", "wares"])
        self.assertEqual(self.arguments(paying.gains), ["bids", "wares", "values"])
        self.assertEqual(self.arguments(paying.taken_in), ["bids", "wares"])

    def test_arguments_by_name(self):
        self.assertEqual(bids.dealt(bids=BIDS, wares=2), [1, 1, 0, 0])
        self.assertEqual(bids.first_left(wares=2, bids=BIDS), 6)
        self.assertEqual(bids.worth(counts=[1, 1, 0, 0], bids=BIDS), 16)
        self.assertEqual(paying.paid(wares=2, bids=BIDS), [4, 6, 0, 0])
        self.assertEqual(paying.gains(values=VALUES, wares=2, bids=BIDS), [5, 2, 0, 0])
        self.assertEqual(paying.taken_in(wares=2, bids=BIDS), 10)


class Kinds(unittest.TestCase):
    def assert_whole_numbers(self, answer):
        self.assertIs(type(answer), list)
        for number in answer:
            self.assertIs(type(number), int)

    def test_lists_of_whole_numbers(self):
        for wares in range(8):
            self.assert_whole_numbers(bids.dealt(BIDS, wares))
            self.assert_whole_numbers(paying.paid(BIDS, wares))
            self.assert_whole_numbers(paying.gains(BIDS, wares, VALUES))
        self.assert_whole_numbers(bids.dealt([], 2))
        self.assert_whole_numbers(paying.paid([], 2))
        self.assert_whole_numbers(paying.gains([], 2, []))

    def test_whole_numbers(self):
        self.assertIs(type(bids.first_left(BIDS, 2)), int)
        self.assertIs(type(bids.worth(BIDS, [1, 1, 0, 0])), int)
        self.assertIs(type(bids.worth([], [])), int)
        self.assertIs(type(paying.taken_in(BIDS, 2)), int)
        self.assertIs(type(paying.taken_in([], 2)), int)

    def test_none(self):
        self.assertIsNone(bids.first_left(BIDS, 5))


class Errors(unittest.TestCase):
    def test_bases(self):
        self.assertEqual(BidError.__bases__, (ValueError,))
        self.assertEqual(NoBid.__bases__, (BidError,))
        self.assertEqual(NoWares.__bases__, (BidError,))

    def test_the_module_defines_them(self):
        for name in ["BidError", "NoBid", "NoWares"]:
            self.assertEqual(getattr(errors, name).__module__, "warebids.errors")

    def test_neither_is_the_other(self):
        self.assertFalse(issubclass(NoBid, NoWares))
        self.assertFalse(issubclass(NoWares, NoBid))


if __name__ == "__main__":
    unittest.main()
