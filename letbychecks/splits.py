"""Odd weight of lots, and checks that are parted in two by a new bit."""

from letbychecks.codes import MOST_BITS, MOST_CHECKS, Code, check_lot, check_number, check_row, check_word
from letbychecks.errors import BadLot, TooMany
from letbychecks.letrows import best_places, worst_places
from letbychecks.ratios import lowest, over_one_bottom, ratio_compare


def range_on(lot, shares):
    """Return the couple (low, high) of the odd weight on a lot that is not empty."""
    tops, bottom = over_one_bottom([shares[bit] for bit in lot])
    # Of an even lot A, the shares off it and what the shares in it lack come to the sum less these gains.
    gains = [2 * top - bottom for top in tops]
    most = sum(tops) - sum([gains[place] for place in best_places(gains, 0)])
    least = worst_places(tops, bottom)[1]
    return lowest(max(least, 0), bottom), lowest(min(most, bottom), bottom)


def odd_range(code, lot, row):
    """Return the couple (low, high) of the odd weight on the lot; raise BadLot(), then BadRow(place)."""
    bits = check_lot(code, lot)
    if len(bits) == 0:
        raise BadLot()
    return range_on(bits, check_row(code, row))


def parts_of_check(code, number, lot):
    """Return the lot and the rest of the check; raise NoCheck(number), or BadLot() unless neither is empty."""
    check = code.checks[check_number(code, number)]
    bits = check_lot(code, lot)
    rest = tuple([bit for bit in check if bit not in bits])
    if len(bits) == 0 or len(rest) == 0 or len(bits) + len(rest) != len(check):
        raise BadLot()
    return bits, rest


def split_code(code, number, lot):
    """Return the code with this check parted by a new bit; raise NoCheck, BadLot(), TooMany."""
    bits, rest = parts_of_check(code, number, lot)
    if code.bits == MOST_BITS:
        raise TooMany(MOST_BITS - 1)
    if len(code) == MOST_CHECKS:
        raise TooMany(MOST_CHECKS - 1)
    new = code.bits
    checks = [*code.checks[:number], (*bits, new), (*rest, new), *code.checks[number + 1:]]
    return Code(code.bits + 1, checks)


def split_word(code, number, lot, word):
    """Return the word with the new bit behind it; raise NoCheck, BadLot(), BadWord(number)."""
    bits, _ = parts_of_check(code, number, lot)
    digits = check_word(code, word)
    return (*digits, sum([digits[bit] for bit in bits]) % 2)


def greater(one, other):
    """Return the greater ratio."""
    return one if ratio_compare(one, other) > 0 else other


def lesser(one, other):
    """Return the lesser ratio."""
    return one if ratio_compare(one, other) < 0 else other


def split_range(code, number, lot, row):
    """Return the couple (low, high) of the new share, or None; raise NoCheck, BadLot(), BadRow(place)."""
    bits, rest = parts_of_check(code, number, lot)
    shares = check_row(code, row)
    low, high = range_on(bits, shares)
    rest_low, rest_high = range_on(rest, shares)
    low = greater(low, rest_low)
    high = lesser(high, rest_high)
    if ratio_compare(low, high) > 0:
        return None
    return low, high
