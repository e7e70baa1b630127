"""Point 1: nothing that is handed in is changed, and nothing is kept between two calls."""

import copy
import unittest

from warebids.bids import dealt, first_left, worth
from warebids.errors import BidError
from warebids.paying import gains, paid, taken_in

TAKEN = [[], [[]], [[9, 6], [7], [4, 4]], [[4], [], [9, 5], [9, 9]], [[0, 0], [0]]]
REFUSED = [[[-1]], [[9, 6], [7, 8]], [[4, 4, 5], [3]], [[9], [], [2, -2]]]


class Unchanged(unittest.TestCase):
    def call(self, function, *handed_in):
        """Answers once the arguments have been held against copies of them, refused or not."""
        before = copy.deepcopy(handed_in)
        rows = [list(argument) for argument in handed_in if isinstance(argument, list)]
        try:
            answer = function(*handed_in)
        except BidError:
            answer = "refused"
        self.assertEqual(handed_in, before)
        lists = [argument for argument in handed_in if isinstance(argument, list)]
        for argument, same in zip(lists, rows):
            self.assertEqual([id(row) for row in argument], [id(row) for row in same])
        return answer

    def call_all(self, bids, wares):
        values = [[8] * (len(row) + 2) for row in bids]
        answers = [self.call(function, bids, wares) for function in [dealt, first_left, paid, taken_in]]
        return answers + [self.call(gains, bids, wares, values)]

    def test_where_bids_are_taken(self):
        for bids in TAKEN:
            for wares in [0, 1, 2, 3, 9]:
                self.assertNotIn("refused", self.call_all(copy.deepcopy(bids), wares))

    def test_where_bids_are_refused(self):
        for bids in REFUSED:
            for wares in [-1, 0, 2]:
                self.assertEqual(self.call_all(copy.deepcopy(bids), wares), ["refused"] * 5)

    def test_where_wares_are_refused(self):
        for bids in TAKEN:
            self.assertEqual(self.call_all(copy.deepcopy(bids), -1), ["refused"] * 5)

    def test_counts(self):
        self.call(worth, [[9, 6], [7], [4, 4]], [1, 1, 0])
        self.call(worth, [[9, 6], [7], []], [2, 0, 0])
        self.call(worth, [], [])

    def test_one_row_for_several_bidders(self):
        row = [5, 3]
        self.assertEqual(self.call(dealt, [row, row], 3), [2, 1])
        self.assertEqual(self.call(paid, [row, row], 3), [3, 0])

    def test_bids_as_values(self):
        bids = [[9, 6], [7], [4, 4]]
        self.assertEqual(self.call(gains, bids, 2, bids), [5, 1, 0])


class NothingKept(unittest.TestCase):
    def test_the_same_answers_again(self):
        bids = [[9, 6], [7], [4, 4]]
        functions = [dealt, first_left, paid, taken_in, lambda bids, wares: gains(bids, wares, bids)]
        before = [function(bids, 2) for function in functions]
        for function in functions:
            function([[1], [2], [3], [4]], 1)
        self.assertEqual([function(bids, 2) for function in functions], before)

    def test_answers_are_lists_of_their_own(self):
        bids = [[9, 6], [7], [4, 4]]
        for function in [dealt, paid, lambda bids, wares: gains(bids, wares, bids)]:
            answer = function(bids, 2)
            kept = list(answer)
            answer.clear()
            self.assertEqual(bids, [[9, 6], [7], [4, 4]])
            self.assertEqual(function(bids, 2), kept)


if __name__ == "__main__":
    unittest.main()
