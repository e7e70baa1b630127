"""Bids, the wares dealt out by them, and what a dealing is worth."""

from warebids.errors import NoBid, NoWares


def refuse_row(row):
    for place, bid in enumerate(row):
        if bid < 0:
            raise NoBid("a bid is below nought")
        if place > 0 and bid > row[place - 1]:
            raise NoBid("a bid is greater than the one ahead of it")


def refuse(bids, wares):
    # The bids are looked at first: where both are wrong it is NoBid.
    for row in bids:
        refuse_row(row)
    if wares < 0:
        raise NoWares("the number of wares is below nought")


def ranked(bids):
    offers = []
    for bidder, row in enumerate(bids):
        for bid in row:
            offers.append((bid, bidder))
    return sorted(offers, key=lambda offer: (-offer[0], offer[1]))


def dealt(bids, wares):
    refuse(bids, wares)
    counts = [0] * len(bids)
    # A slice, since there may be far more wares than could be counted through.
    for offer in ranked(bids)[:wares]:
        counts[offer[1]] += 1
    return counts


def first_left(bids, wares):
    refuse(bids, wares)
    left = ranked(bids)[wares:]
    if len(left) == 0:
        return None
    return left[0][0]


def worth(bids, counts):
    return sum([sum(row[:count]) for row, count in zip(bids, counts)])
