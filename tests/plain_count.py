"""A plain count of small cases, which uses nothing of the program."""

from itertools import combinations_with_replacement, product


def rows(greatest, longest):
    """Every row of at most `longest` bids of nought to `greatest`, none greater than the one ahead of it."""
    falling = range(greatest, -1, -1)
    return [list(row) for length in range(longest + 1)
            for row in combinations_with_replacement(falling, length)]


def all_bids(bidders, greatest, longest):
    return [list(bids) for bids in product(rows(greatest, longest), repeat=bidders)]


def small_cases():
    """Bids of nought to three bidders, each with fewer, as many and more wares than bids."""
    shapes = [(0, 0, 0), (1, 3, 4), (2, 2, 3), (2, 4, 2), (3, 2, 2), (3, 1, 3)]
    for bidders, greatest, longest in shapes:
        for bids in all_bids(bidders, greatest, longest):
            for wares in range(sum(map(len, bids)) + 2):
                yield [list(row) for row in bids], wares


def value(row, count):
    total = 0
    for place in range(count):
        total += row[place]
    return total


def value_of_all(bids, counts):
    return sum(value(bids[bidder], counts[bidder]) for bidder in range(len(bids)))


def all_dealings(bids, wares):
    """Every dealing of so many wares or fewer in which nobody gets more than they tell bids."""
    for counts in product(*[range(len(row) + 1) for row in bids]):
        if sum(counts) <= wares:
            yield list(counts)


def greatest_value(bids, wares):
    return max(value_of_all(bids, counts) for counts in all_dealings(bids, wares))


def dealing(bids, wares):
    """Ware by ware, to the first bidder in number whose next bid is the greatest."""
    counts = [0] * len(bids)
    for ware in range(wares):
        winner = None
        for bidder, row in enumerate(bids):
            if counts[bidder] == len(row):
                continue
            if winner is None or row[counts[bidder]] > bids[winner][counts[winner]]:
                winner = bidder
        if winner is None:
            break
        counts[winner] += 1
    return counts


def price(bids, wares, bidder):
    """By the most that any dealing among the others alone is worth."""
    counts = dealing(bids, wares)
    others = bids[:bidder] + bids[bidder + 1:]
    others_counts = counts[:bidder] + counts[bidder + 1:]
    return greatest_value(others, wares) - value_of_all(others, others_counts)
