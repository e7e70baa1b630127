"""The refusals."""


# Any refusal.
class BidError(ValueError):
    pass


# Some bid is below nought, or greater than the one ahead of it in its row.
class NoBid(BidError):
    pass


# The number of wares is below nought.
class NoWares(BidError):
    pass
