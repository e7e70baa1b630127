"""Points 2, 4 and 5: the dealing, the first bid left, what a dealing is worth."""

import unittest

from warebids.bids import dealt, first_left, worth

EXAMPLE = [[9, 6], [7], [4, 4]]
SIXTY = 10 ** 60 - 1


class Dealt(unittest.TestCase):
    def test_example(self):
        self.assertEqual(dealt(EXAMPLE, 2), [1, 1, 0])

    def test_ware_by_ware(self):
        expected = [[0, 0, 0], [1, 0, 0], [1, 1, 0], [2, 1, 0], [2, 1, 1], [2, 1, 2]]
        for wares, counts in enumerate(expected):
            self.assertEqual(dealt(EXAMPLE, wares), counts)

    def test_no_bidder(self):
        for wares in [0, 1, 5]:
            self.assertEqual(dealt([], wares), [])

    def test_empty_rows(self):
        self.assertEqual(dealt([[]], 3), [0])
        self.assertEqual(dealt([[], [], []], 3), [0, 0, 0])
        self.assertEqual(dealt([[], [5], [], [8, 2]], 2), [0, 1, 0, 1])

    def test_no_wares(self):
        self.assertEqual(dealt([[3], [2, 1]], 0), [0, 0])

    def test_more_wares_than_bids(self):
        self.assertEqual(dealt([[3], [2, 1], []], 4), [1, 2, 0])
        self.assertEqual(dealt([[3], [2, 1], []], 10 ** 60), [1, 2, 0])

    def test_as_many_wares_as_bids(self):
        self.assertEqual(dealt([[3], [2, 1], []], 3), [1, 2, 0])

    def test_equal_bids_of_several_bidders(self):
        bids = [[5], [5], [5]]
        self.assertEqual(dealt(bids, 1), [1, 0, 0])
        self.assertEqual(dealt(bids, 2), [1, 1, 0])
        self.assertEqual(dealt([[4], [5], [5]], 1), [0, 1, 0])
        self.assertEqual(dealt([[1], [6, 5], [7, 5]], 3), [0, 2, 1])

    def test_equal_bids_within_one_row(self):
        self.assertEqual(dealt([[5, 5], [5, 5]], 1), [1, 0])
        self.assertEqual(dealt([[5, 5], [5, 5]], 2), [2, 0])
        self.assertEqual(dealt([[5, 5], [5, 5]], 3), [2, 1])
        self.assertEqual(dealt([[9, 5], [5, 5]], 2), [2, 0])
        self.assertEqual(dealt([[5, 5], [9, 5]], 2), [1, 1])

    def test_bids_of_nought_get_wares(self):
        self.assertEqual(dealt([[0, 0], [0]], 2), [2, 0])
        self.assertEqual(dealt([[0], [1, 0]], 2), [1, 1])
        self.assertEqual(dealt([[0], [1, 0]], 3), [1, 2])

    def test_bids_of_sixty_figures(self):
        self.assertEqual(dealt([[SIXTY - 1], [SIXTY, SIXTY - 2]], 1), [0, 1])
        self.assertEqual(dealt([[SIXTY - 1], [SIXTY, SIXTY - 2]], 2), [1, 1])

    def test_a_hundred_and_ten_bidders(self):
        bids = [[bidder] for bidder in range(110)]
        self.assertEqual(dealt(bids, 50), [0] * 60 + [1] * 50)
        self.assertEqual(dealt([[7]] * 110, 50), [1] * 50 + [0] * 60)

    def test_a_hundred_and_ten_bids_of_one(self):
        self.assertEqual(dealt([[], list(range(110, 0, -1))], 99), [0, 99])

    def test_somewhat_beyond_the_bounds(self):
        bids = [[10 ** 70 + bidder, 1] for bidder in range(120)]
        self.assertEqual(dealt(bids, 20), [0] * 100 + [1] * 20)
        self.assertEqual(dealt([[1]] * 120, 115), [1] * 115 + [0] * 5)

    def test_numbers_of_two_figures_are_no_texts(self):
        self.assertEqual(dealt([[9], [10]], 1), [0, 1])


class FirstLeft(unittest.TestCase):
    def test_example(self):
        expected = [9, 7, 6, 4, 4, None, None]
        for wares, bid in enumerate(expected):
            self.assertEqual(first_left(EXAMPLE, wares), bid)

    def test_no_bid_at_all(self):
        for bids in [[], [[]], [[], []]]:
            for wares in [0, 1, 5]:
                self.assertIsNone(first_left(bids, wares))

    def test_no_wares(self):
        self.assertEqual(first_left([[2, 1], [3]], 0), 3)

    def test_more_wares_than_bids(self):
        self.assertIsNone(first_left([[3], [2, 1]], 3))
        self.assertIsNone(first_left([[3], [2, 1]], 4))
        self.assertIsNone(first_left([[3], [2, 1]], 10 ** 60))

    def test_a_bid_of_nought_is_left(self):
        left = first_left([[4], [0]], 1)
        self.assertIsNotNone(left)
        self.assertEqual(left, 0)

    def test_equal_bids(self):
        self.assertEqual(first_left([[5], [5], [5]], 2), 5)
        self.assertEqual(first_left([[5, 5], [4]], 1), 5)
        self.assertEqual(first_left([[5, 5], [4]], 2), 4)

    def test_bids_of_sixty_figures(self):
        self.assertEqual(first_left([[SIXTY - 1], [SIXTY, SIXTY - 2]], 1), SIXTY - 1)

    def test_a_hundred_and_ten_bidders(self):
        self.assertEqual(first_left([[bidder] for bidder in range(110)], 50), 59)
        self.assertEqual(first_left([[bidder] for bidder in range(110)], 109), 0)
        self.assertIsNone(first_left([[bidder] for bidder in range(110)], 110))


class Worth(unittest.TestCase):
    def test_example(self):
        self.assertEqual(worth(EXAMPLE, [1, 1, 0]), 16)
        self.assertEqual(worth(EXAMPLE, [2, 0, 0]), 15)
        self.assertEqual(worth(EXAMPLE, [0, 1, 1]), 11)

    def test_every_ware_and_none(self):
        self.assertEqual(worth(EXAMPLE, [2, 1, 2]), 30)
        self.assertEqual(worth(EXAMPLE, [0, 0, 0]), 0)

    def test_no_bidder_and_empty_rows(self):
        self.assertEqual(worth([], []), 0)
        self.assertEqual(worth([[], []], [0, 0]), 0)
        self.assertEqual(worth([[], [3, 2]], [0, 1]), 3)

    def test_the_first_bids_of_a_row_count(self):
        self.assertEqual(worth([[8, 4, 2, 1]], [3]), 14)

    def test_bids_of_sixty_figures(self):
        self.assertEqual(worth([[SIXTY, SIXTY - 1], [SIXTY]], [2, 1]), 3 * SIXTY - 1)

    def test_a_hundred_and_ten_bidders(self):
        self.assertEqual(worth([[bidder] for bidder in range(110)], [1] * 110), 5995)
        self.assertEqual(worth([list(range(110, 0, -1))], [109]), 6104)

    def test_bids_are_not_refused(self):
        self.assertEqual(worth([[1, 5], [-3, -4]], [2, 1]), 3)


if __name__ == "__main__":
    unittest.main()
