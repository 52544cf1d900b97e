"""What a mender makes of prices or of received digits by the cheapest let row."""

from letbychecks.cheapest import cheapest_two
from letbychecks.codes import check_prices, is_long
from letbychecks.errors import BadReceived
from letbychecks.letrows import row_between
from letbychecks.ratios import HALF, is_whole
from letbychecks.words import word_of_row


class Mended:
    """The word that is the sole cheapest let row."""

    def __init__(self, word):
        self.word = word


class Unsure:
    """A cheapest let row that is no word's."""

    def __init__(self, row):
        self.row = row


def mend_prices(code, prices):
    """Return Mended(word) or Unsure(row); raise BadPrices(place)."""
    row, other = cheapest_two(code, check_prices(code, prices))
    word = word_of_row(row)
    if word is None:
        return Unsure(row)
    if row == other:
        return Mended(word)
    # Half way from a word's row all shares that change are between 0 and 1.
    return Unsure(row_between(row, other, HALF))


def check_received(code, received):
    """Return the received digits as a tuple; raise BadReceived(place)."""
    if not is_long(received, code.bits):
        raise BadReceived(-1)
    for place, digit in enumerate(received):
        if not is_whole(digit, 0, 1):
            raise BadReceived(place)
    return tuple(received)


def mend_received(code, received):
    """Return mend_prices at the prices 1 where 0 was received and -1 where 1 was; raise BadReceived(place)."""
    return mend_prices(code, [1 - 2 * digit for digit in check_received(code, received)])
