"""Point 3: NoBid and NoWares, and which of the two where both hold."""

import unittest

from warebids.bids import dealt, first_left
from warebids.errors import NoBid, NoWares
from warebids.paying import gains, paid, taken_in

FUNCTIONS = {
    "dealt": dealt,
    "first_left": first_left,
    "paid": paid,
    "taken_in": taken_in,
    "gains": lambda bids, wares: gains(bids, wares, [[3] * len(row) for row in bids]),
}
GOOD = [[9, 6, 6], [], [7], [4, 4]]
WARES = [0, 1, 2, 6, 7, 10 ** 60]
WARES_BELOW_NOUGHT = [-1, -2, -7, -10 ** 60, -10 ** 5000]


def with_bid(row_number, place, bid):
    bids = [list(row) for row in GOOD]
    bids[row_number][place] = bid
    return bids


def places(first):
    return [(row_number, place) for row_number, row in enumerate(GOOD) for place in range(first, len(row))]


def below_nought():
    for bid in [-1, -10 ** 59, -10 ** 5000]:
        for row_number, place in places(0):
            yield with_bid(row_number, place, bid)
    yield [[-1]]
    yield [[], [-1]]
    yield [[0, -1]]
    yield [[-1, -1]]
    yield [[-1, -2]]
    yield [[1]] * 109 + [[-1]]


def greater_than_ahead():
    for row_number, place in places(1):
        ahead = GOOD[row_number][place - 1]
        for bid in [ahead + 1, 10 ** 59]:
            yield with_bid(row_number, place, bid)
    yield [[0, 1]]
    yield [[], [0, 0, 1]]
    yield [[5, 3, 4]]
    yield [[10 ** 60 - 2, 10 ** 60 - 1]]
    yield [list(range(109, 0, -1)) + [2]]


def wrong_bids():
    return list(below_nought()) + list(greater_than_ahead())


class Refusing(unittest.TestCase):
    def assert_refused(self, error, bids, wares):
        for name, function in FUNCTIONS.items():
            with self.subTest(function=name):
                with self.assertRaises(error) as caught:
                    function(bids, wares)
                self.assertIs(type(caught.exception), error)

    def test_a_bid_below_nought(self):
        for bids in below_nought():
            for wares in WARES:
                self.assert_refused(NoBid, bids, wares)

    def test_a_bid_greater_than_the_one_ahead(self):
        for bids in greater_than_ahead():
            for wares in WARES:
                self.assert_refused(NoBid, bids, wares)

    def test_wares_below_nought(self):
        for bids in [GOOD, [], [[]], [[0]], [[5, 5], [0, 0]]]:
            for wares in WARES_BELOW_NOUGHT:
                self.assert_refused(NoWares, bids, wares)

    def test_both_at_once(self):
        for bids in wrong_bids():
            for wares in WARES_BELOW_NOUGHT:
                self.assert_refused(NoBid, bids, wares)


class NotRefusing(unittest.TestCase):
    def test_the_edges_are_taken(self):
        taken = [GOOD, [], [[]], [[], []], [[0]], [[0, 0]], [[5, 5, 5]], [[3], [4], [5]], [[0], [10 ** 60]]]
        for bids in taken:
            for wares in WARES:
                for name, function in FUNCTIONS.items():
                    with self.subTest(function=name, bids=bids, wares=wares):
                        function(bids, wares)

    def test_nothing_is_refused_for_its_size(self):
        bids = [[10 ** 70, 1] for bidder in range(120)]
        for name, function in FUNCTIONS.items():
            with self.subTest(function=name):
                function(bids, 10 ** 70)


if __name__ == "__main__":
    unittest.main()
