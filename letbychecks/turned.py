"""Rows and prices turned by a word, so that the word stands where the row of zeros stood."""

from letbychecks.codes import check_prices, check_row, check_word
from letbychecks.cones import small_row, zero_sole
from letbychecks.ratios import ONE, ratio_minus


def turned_shares(shares, digits):
    """Return the shares, each less than 1 by itself where the digit is 1."""
    return tuple([ratio_minus(ONE, share) if digit == 1 else share for share, digit in zip(shares, digits)])


def turned_row(code, row, word):
    """Return the row turned by the word; raise BadRow(place), then BadWord(number)."""
    shares = check_row(code, row)
    return turned_shares(shares, check_word(code, word))


def turned_prices(code, prices, word):
    """Return the prices turned by the word; raise BadPrices(place), then BadWord(number)."""
    given = check_prices(code, prices)
    return tuple([-price if digit == 1 else price for price, digit in zip(given, check_word(code, word))])


def rival_row(code, prices, word):
    """Return None if the word is the sole cheapest let row, else another let row that costs no more.

    Raise BadPrices(place), then BadWord(number).
    """
    entries = zero_sole(code, turned_prices(code, prices, word))
    if entries is None:
        return None
    return turned_row(code, small_row(code, entries), word)
