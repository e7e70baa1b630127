"""Points 4 to 8 over many small inputs, against a plain count of all dealings."""

import unittest

import plain_count

from warebids.bids import dealt, first_left, worth
from warebids.paying import gains, paid, taken_in


class Dealings(unittest.TestCase):
    def test_dealing(self):
        for bids, wares in plain_count.small_cases():
            self.assertEqual(dealt(bids, wares), plain_count.dealing(bids, wares), (bids, wares))

    def test_the_dealing_is_among_all_dealings(self):
        for bids, wares in plain_count.small_cases():
            self.assertIn(dealt(bids, wares), list(plain_count.all_dealings(bids, wares)), (bids, wares))

    def test_no_dealing_is_worth_more(self):
        for bids, wares in plain_count.small_cases():
            best = max(worth(bids, counts) for counts in plain_count.all_dealings(bids, wares))
            self.assertEqual(worth(bids, dealt(bids, wares)), best, (bids, wares))

    def test_worth_of_every_dealing(self):
        for bids in plain_count.all_bids(3, 2, 2):
            for counts in plain_count.all_dealings(bids, 6):
                self.assertEqual(worth(bids, counts), plain_count.value_of_all(bids, counts), (bids, counts))

    def test_first_left(self):
        for bids, wares in plain_count.small_cases():
            counts = dealt(bids, wares)
            left = [bid for row, count in zip(bids, counts) for bid in row[count:]]
            self.assertEqual(first_left(bids, wares), max(left, default=None), (bids, wares))


class Payments(unittest.TestCase):
    def test_each_pays_what_the_others_lose(self):
        for bids, wares in plain_count.small_cases():
            prices = [plain_count.price(bids, wares, bidder) for bidder in range(len(bids))]
            self.assertEqual(paid(bids, wares), prices, (bids, wares))

    def test_nobody_pays_below_nought_or_above_their_bids(self):
        for bids, wares in plain_count.small_cases():
            for row, count, price in zip(bids, dealt(bids, wares), paid(bids, wares)):
                self.assertGreaterEqual(price, 0, (bids, wares))
                self.assertLessEqual(price, plain_count.value(row, count), (bids, wares))

    def test_who_gets_no_ware_pays_nothing(self):
        for bids, wares in plain_count.small_cases():
            for count, price in zip(dealt(bids, wares), paid(bids, wares)):
                if count == 0:
                    self.assertEqual(price, 0, (bids, wares))

    def test_one_ware_costs_the_greatest_of_the_others_first_bids(self):
        for bids, wares in plain_count.small_cases():
            if wares != 1 or not any(bids):
                continue
            winner = dealt(bids, 1).index(1)
            others = [row[0] for bidder, row in enumerate(bids) if bidder != winner and row]
            self.assertEqual(paid(bids, 1)[winner], max(others, default=0), bids)

    def test_taken_in_is_what_all_pay(self):
        for bids, wares in plain_count.small_cases():
            prices = [plain_count.price(bids, wares, bidder) for bidder in range(len(bids))]
            self.assertEqual(taken_in(bids, wares), sum(prices), (bids, wares))


class Gaining(unittest.TestCase):
    def test_gains_are_values_less_payments(self):
        for bids, wares in plain_count.small_cases():
            values = [[5, 3, 2, 1, 0][:len(row) + bidder % 2] for bidder, row in enumerate(bids)]
            expected = [plain_count.value(row, count) - price
                        for row, count, price in zip(values, dealt(bids, wares), paid(bids, wares))]
            self.assertEqual(gains(bids, wares, values), expected, (bids, wares))

    def assert_nobody_gains_by_other_bids(self, bidders, own_rows, others_rows, wares):
        for bidder in range(bidders):
            for others in others_rows:
                for true_row in own_rows:
                    self.assert_true_row_is_best(bidder, others, true_row, own_rows, wares)

    def assert_true_row_is_best(self, bidder, others, true_row, own_rows, wares):
        def gain(told):
            bids = others[:bidder] + [told] + others[bidder:]
            # The values tell at least as many as the bids; a ware beyond the true row is worth nothing.
            longer = true_row + [0] * (len(told) - len(true_row))
            values = others[:bidder] + [longer] + others[bidder:]
            return gains(bids, wares, values)[bidder]

        honest = gain(true_row)
        for told in own_rows:
            self.assertLessEqual(gain(told), honest, (bidder, others, true_row, told, wares))

    def test_nobody_of_one_gains_by_other_bids(self):
        own = plain_count.rows(3, 3)
        for wares in range(5):
            self.assert_nobody_gains_by_other_bids(1, own, [[]], wares)

    def test_nobody_of_two_gains_by_other_bids(self):
        own = plain_count.rows(3, 2)
        others = plain_count.all_bids(1, 3, 3)
        for wares in range(6):
            self.assert_nobody_gains_by_other_bids(2, own, others, wares)

    def test_nobody_of_three_gains_by_other_bids(self):
        own = plain_count.rows(2, 2)
        others = plain_count.all_bids(2, 2, 2)
        for wares in range(5):
            self.assert_nobody_gains_by_other_bids(3, own, others, wares)


if __name__ == "__main__":
    unittest.main()
