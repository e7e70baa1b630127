"""Points 6 to 8: what each pays, what all pay together, what each gains."""

import unittest

from warebids.paying import gains, paid, taken_in

EXAMPLE = [[9, 6], [7], [4, 4]]
SIXTY = 10 ** 60 - 1


class Paid(unittest.TestCase):
    def test_example(self):
        self.assertEqual(paid(EXAMPLE, 2), [4, 6, 0])

    def test_other_numbers_of_wares(self):
        self.assertEqual(paid(EXAMPLE, 0), [0, 0, 0])
        self.assertEqual(paid(EXAMPLE, 1), [7, 0, 0])
        self.assertEqual(paid(EXAMPLE, 3), [8, 4, 0])
        self.assertEqual(paid(EXAMPLE, 4), [4, 4, 0])
        self.assertEqual(paid(EXAMPLE, 5), [0, 0, 0])

    def test_no_bidder(self):
        for wares in [0, 1, 5]:
            self.assertEqual(paid([], wares), [])

    def test_empty_rows(self):
        self.assertEqual(paid([[], []], 2), [0, 0])
        self.assertEqual(paid([[], [5], [], [8, 2]], 1), [0, 0, 0, 5])

    def test_more_wares_than_bids(self):
        self.assertEqual(paid([[3], [2, 1]], 7), [0, 0])
        self.assertEqual(paid([[3], [2, 1]], 10 ** 60), [0, 0])

    def test_one_ware_with_one_bidder(self):
        self.assertEqual(paid([[8]], 1), [0])
        self.assertEqual(paid([[8, 7]], 1), [0])
        self.assertEqual(paid([[], [8, 7], []], 1), [0, 0, 0])

    def test_one_ware_with_several_bidders(self):
        self.assertEqual(paid([[3], [8], [5]], 1), [0, 5, 0])
        self.assertEqual(paid([[3], [8, 7], [5, 5]], 1), [0, 5, 0])
        self.assertEqual(paid([[3, 3], [5], [4]], 1), [0, 4, 0])

    def test_one_ware_with_equal_bids(self):
        self.assertEqual(paid([[3], [8], [8]], 1), [0, 8, 0])

    def test_own_further_bids_are_not_paid(self):
        self.assertEqual(paid([[9, 8], [2]], 1), [2, 0])
        self.assertEqual(paid([[9, 8, 7], [2]], 2), [2, 0])

    def test_bids_of_nought(self):
        self.assertEqual(paid([[0], [0]], 1), [0, 0])
        self.assertEqual(paid([[4], [0]], 1), [0, 0])

    def test_bids_of_sixty_figures(self):
        self.assertEqual(paid([[SIXTY, SIXTY - 1], [SIXTY - 2], [SIXTY - 3]], 2), [2 * SIXTY - 5, 0, 0])

    def test_a_hundred_and_ten_bidders(self):
        bids = [[bidder] for bidder in range(110)]
        self.assertEqual(paid(bids, 50), [0] * 60 + [59] * 50)

    def test_a_hundred_and_ten_bids_of_two(self):
        bids = [[10] * 55, [7] * 55]
        self.assertEqual(paid(bids, 55), [385, 0])
        self.assertEqual(paid(bids, 60), [350, 0])

    def test_somewhat_beyond_the_bounds(self):
        bids = [[10 ** 70 + bidder] for bidder in range(125)]
        self.assertEqual(paid(bids, 1), [0] * 124 + [10 ** 70 + 123])


class TakenIn(unittest.TestCase):
    def test_example(self):
        self.assertEqual([taken_in(EXAMPLE, wares) for wares in range(7)], [0, 7, 10, 12, 8, 0, 0])

    def test_no_bidder_and_empty_rows(self):
        self.assertEqual(taken_in([], 3), 0)
        self.assertEqual(taken_in([[], []], 3), 0)

    def test_more_wares_than_bids(self):
        self.assertEqual(taken_in([[3], [2, 1]], 10 ** 60), 0)

    def test_bids_of_sixty_figures(self):
        self.assertEqual(taken_in([[SIXTY, SIXTY - 1], [SIXTY - 2], [SIXTY - 3]], 2), 2 * SIXTY - 5)

    def test_a_hundred_and_ten_bidders(self):
        self.assertEqual(taken_in([[bidder] for bidder in range(110)], 50), 2950)


class Gains(unittest.TestCase):
    def test_example_with_the_bids_as_values(self):
        self.assertEqual(gains(EXAMPLE, 2, EXAMPLE), [5, 1, 0])

    def test_values_other_than_the_bids(self):
        self.assertEqual(gains(EXAMPLE, 2, [[20, 1], [6], [50, 50]]), [16, 0, 0])

    def test_below_nought(self):
        self.assertEqual(gains(EXAMPLE, 2, [[1, 0], [2], [3, 3]]), [-3, -4, 0])
        self.assertEqual(gains([[9], [7]], 1, [[0], [7]]), [-7, 0])

    def test_values_longer_than_the_row_of_bids(self):
        self.assertEqual(gains(EXAMPLE, 2, [[9, 6, 5], [7, 7, 7], [4, 4, 4]]), [5, 1, 0])
        self.assertEqual(gains([[], [5]], 3, [[8, 8], [6, 6]]), [0, 6])
        self.assertEqual(gains([[5], [3]], 1, [list(range(120, 0, -1)), [3] * 120]), [117, 0])

    def test_no_bidder_and_empty_rows(self):
        self.assertEqual(gains([], 3, []), [])
        self.assertEqual(gains([[], []], 3, [[], [4]]), [0, 0])

    def test_no_wares(self):
        self.assertEqual(gains(EXAMPLE, 0, EXAMPLE), [0, 0, 0])

    def test_more_wares_than_bids(self):
        self.assertEqual(gains([[3], [2, 1]], 10 ** 60, [[4, 4], [2, 2]]), [4, 4])

    def test_one_ware(self):
        self.assertEqual(gains([[8]], 1, [[5]]), [5])
        self.assertEqual(gains([[3], [8], [5]], 1, [[3], [9], [5]]), [0, 4, 0])

    def test_bids_of_nought(self):
        self.assertEqual(gains([[0], [0]], 1, [[6], [7]]), [6, 0])

    def test_bids_of_sixty_figures(self):
        self.assertEqual(gains([[SIXTY], [SIXTY - 1]], 1, [[SIXTY], [SIXTY]]), [1, 0])
        self.assertEqual(gains([[SIXTY], [SIXTY - 1]], 1, [[0], [0]]), [1 - SIXTY, 0])

    def test_a_hundred_and_ten_bidders(self):
        bids = [[bidder] for bidder in range(110)]
        self.assertEqual(gains(bids, 50, bids), [0] * 60 + list(range(1, 51)))


if __name__ == "__main__":
    unittest.main()
