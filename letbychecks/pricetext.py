"""Prices and rows written as texts and read back."""

from letbychecks.codes import MOST_BITS, MOST_PRICE
from letbychecks.codetext import DIGITS, check_text
from letbychecks.errors import BadText
from letbychecks.ratios import is_share

MOST_DIGITS = 60


def prices_text(prices):
    """Return the prices, one part each."""
    return " ".join([str(price) for price in prices])


def share_text(share):
    """Return a share as 0, 1 or top / bottom."""
    top, bottom = share
    return str(top) if bottom == 1 else str(top) + "/" + str(bottom)


def row_text(row):
    """Return the shares, one part each."""
    return " ".join([share_text(share) for share in row])


def whole_of(part):
    """Return the number of at most 60 decimal digits without a leading zero, or None."""
    if not 1 <= len(part) <= MOST_DIGITS or not all([sign in DIGITS for sign in part]):
        return None
    return None if part[0] == "0" and len(part) > 1 else int(part)


def price_of(part):
    """Return the price of a part, or None."""
    number = whole_of(part[1:] if part.startswith("-") else part)
    if number is None or number > MOST_PRICE:
        return None
    if not part.startswith("-"):
        return number
    return -number if number > 0 else None


def share_of(part):
    """Return the share of a part, or None."""
    if part == "0" or part == "1":
        return int(part), 1
    top, _, bottom = part.partition("/")
    share = (whole_of(top), whole_of(bottom))
    # A share with the bottom 1 is written without it.
    return share if is_share(share) and share[1] > 1 else None


def read_parts(text):
    """Return a list of the parts of a text; raise BadText(-1)."""
    return check_text(text).split(" ")


def check_part(place, thing):
    """Return the thing that a part stands for; raise BadText(place) if it is None or one too many."""
    if thing is None or place >= MOST_BITS:
        raise BadText(place)
    return thing


def read_prices(text):
    """Return the prices of a text; raise BadText(place)."""
    return tuple([check_part(place, price_of(part)) for place, part in enumerate(read_parts(text))])


def read_row(text):
    """Return the shares of a text; raise BadText(place)."""
    return tuple([check_part(place, share_of(part)) for place, part in enumerate(read_parts(text))])
