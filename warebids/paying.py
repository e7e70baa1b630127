"""What the bidders pay for the wares dealt out to them, and what they gain."""

from warebids.bids import dealt, worth


def replaced(entries, place, entry):
    return entries[:place] + [entry] + entries[place + 1:]


def lost_by_others(bids, wares, counts, bidder):
    # An empty row in the bidder's place: the others keep their numbers.
    others = replaced(bids, bidder, [])
    without = worth(others, dealt(others, wares))
    now = worth(others, replaced(counts, bidder, 0))
    return without - now


def paid(bids, wares):
    counts = dealt(bids, wares)
    return [lost_by_others(bids, wares, counts, bidder) for bidder in range(len(bids))]


def taken_in(bids, wares):
    return sum(paid(bids, wares))


def gains(bids, wares, values):
    counts = dealt(bids, wares)
    prices = paid(bids, wares)
    return [worth([row], [count]) - price for row, count, price in zip(values, counts, prices)]
