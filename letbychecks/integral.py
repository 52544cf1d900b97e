"""Codes that are right for all prices, judged by the corners of their let rows."""

from letbychecks.corners import corner_prices, corners_of
from letbychecks.words import word_of_row


class FooledAt:
    """A corner that is not whole, and its own prices, at which it is the sole cheapest let row."""

    def __init__(self, corner, prices):
        self.corner = corner
        self.prices = prices


def broken_corners(code):
    """Return the corners that are not whole, ascending; raise TooMany(6)."""
    return tuple([corner for corner in corners_of(code) if word_of_row(corner) is None])


def all_right(code):
    """Return None if the code is right for all prices, else FooledAt(corner, prices); raise TooMany(6)."""
    broken = broken_corners(code)
    return None if len(broken) == 0 else FooledAt(broken[0], corner_prices(code, broken[0]))
