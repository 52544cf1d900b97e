"""Codes of bits and checks, and what functions of a code are passed."""

from letbychecks.errors import BadBit, BadCode, BadLot, BadPrices, BadRow, BadWord, NoCheck
from letbychecks.ratios import is_sequence, is_share, is_whole

MOST_BITS = 10
MOST_CHECKS = 63
MOST_SHEETS = 240
MOST_PRICE = 99


def is_lot(thing, many):
    """Tell whether the thing is a sequence of unlike whole numbers from 0 to many - 1."""
    if not is_sequence(thing) or not all([is_whole(item, 0, many - 1) for item in thing]):
        return False
    return len(set(thing)) == len(thing)


def is_order(thing, many):
    """Tell whether the thing is a sequence that has each of 0 to many - 1 once."""
    return is_lot(thing, many) and len(thing) == many


class Code:
    """A count of bits and a tuple of checks, each an ascending tuple of its bits."""

    def __init__(self, bits, checks):
        if not is_whole(bits, 1, MOST_BITS):
            raise BadCode("bits", -1)
        if not is_sequence(checks) or len(checks) > MOST_CHECKS:
            raise BadCode("many", -1)
        for number, check in enumerate(checks):
            if not is_lot(check, bits) or len(check) == 0:
                raise BadCode("check", number)
        self.bits = bits
        self.checks = tuple([tuple(sorted(check)) for check in checks])

    def __len__(self):
        return len(self.checks)

    def __eq__(self, other):
        return isinstance(other, Code) and self.bits == other.bits and self.checks == other.checks


def check_bit(code, bit):
    """Return the bit; raise BadBit(bit) unless it is one of the code."""
    if not is_whole(bit, 0, code.bits - 1):
        raise BadBit(bit)
    return bit


def check_number(code, number):
    """Return the number; raise NoCheck(number) unless it is the number of a check."""
    if not is_whole(number, 0, len(code) - 1):
        raise NoCheck(number)
    return number


def check_lot(code, lot):
    """Return the lot as an ascending tuple; raise BadLot() unless it is a lot of the code."""
    if not is_lot(lot, code.bits):
        raise BadLot()
    return tuple(sorted(lot))


def is_long(thing, many):
    """Tell whether the thing is a sequence of just so many items."""
    return is_sequence(thing) and len(thing) == many


def check_prices(code, prices):
    """Return the prices as a tuple; raise BadPrices with the first wrong place."""
    if not is_long(prices, code.bits):
        raise BadPrices(-1)
    for place, price in enumerate(prices):
        if not is_whole(price, -MOST_PRICE, MOST_PRICE):
            raise BadPrices(place)
    return tuple(prices)


def check_row(code, row):
    """Return the row as a tuple; raise BadRow with the first wrong place."""
    if not is_long(row, code.bits):
        raise BadRow(-1)
    for place, share in enumerate(row):
        if not is_share(share):
            raise BadRow(place)
    return tuple(row)


def is_digits(thing, many):
    """Tell whether the thing is a sequence of just so many integers 0 or 1."""
    return is_long(thing, many) and all([is_whole(item, 0, 1) for item in thing])


def check_digits(code, word):
    """Return the digits as a tuple, a word or not; raise BadWord(-1) unless they are such."""
    if not is_digits(word, code.bits):
        raise BadWord(-1)
    return tuple(word)


def odd_check(code, digits):
    """Return the number of the first check on which the digits are odd, or None."""
    for number, check in enumerate(code.checks):
        if sum([digits[bit] for bit in check]) % 2 == 1:
            return number
    return None


def check_word(code, word):
    """Return the word as a tuple; raise BadWord(-1), or BadWord with the first odd check."""
    digits = check_digits(code, word)
    number = odd_check(code, digits)
    if number is not None:
        raise BadWord(number)
    return digits
