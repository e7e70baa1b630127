"""Warebids: wares sold by sealed bids, each winner paying what the others lose by it."""
