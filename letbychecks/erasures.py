"""Received words with erased bits: filled in check by check, by all words, or by the cheapest let row."""

from letbychecks.codes import check_lot, is_long
from letbychecks.cones import zero_sole
from letbychecks.errors import BadLot, BadReceived
from letbychecks.mending import mend_prices
from letbychecks.ratios import is_whole
from letbychecks.stops import first_single, list_stops, met_bits
from letbychecks.words import lot_mask, word_lot, words_of


class Filled:
    """The word that was filled in."""

    def __init__(self, word):
        self.word = word


class Left:
    """The lot that is still erased, and the received values with those filled in."""

    def __init__(self, lot, told):
        self.lot = lot
        self.told = told


class Clash:
    """The number of a check that is odd without an erased bit."""

    def __init__(self, number):
        self.number = number


class Several:
    """The first two words of more than one that fit."""

    def __init__(self, one, other):
        self.one = one
        self.other = other


class NoWord:
    """No word fits."""


def check_erased(code, received):
    """Return the received values as a tuple, with None for an erased bit; raise BadReceived(place)."""
    if not is_long(received, code.bits):
        raise BadReceived(-1)
    for place, value in enumerate(received):
        if value is not None and not is_whole(value, 0, 1):
            raise BadReceived(place)
    return tuple(received)


def erased_bits(values):
    """Return the lot of the bits whose value is None."""
    return tuple([bit for bit, value in enumerate(values) if value is None])


def erased_lot(code, received):
    """Return the lot of the erased bits; raise BadReceived(place)."""
    return erased_bits(check_erased(code, received))


def known_sum(check, values):
    """Return the sum of the values of the check that are not erased."""
    return sum([values[bit] for bit in check if values[bit] is not None])


def clashing_check(code, values):
    """Return the number of the first check that has no erased bit and is odd, or None."""
    erased = erased_bits(values)
    for number, check in enumerate(code.checks):
        if len(met_bits(check, erased)) == 0 and known_sum(check, values) % 2 == 1:
            return number
    return None


def fill_erased(code, received):
    """Return Filled(word), Left(lot, told) or Clash(number); raise BadReceived(place)."""
    values = list(check_erased(code, received))
    number = clashing_check(code, values)
    single = first_single(code, erased_bits(values))
    while number is None and single is not None:
        values[single[1]] = known_sum(code.checks[single[0]], values) % 2
        number = clashing_check(code, values)
        single = first_single(code, erased_bits(values))
    if number is not None:
        return Clash(number)
    erased = erased_bits(values)
    return Filled(tuple(values)) if len(erased) == 0 else Left(erased, tuple(values))


def fits(values, word):
    """Tell whether the word has each value that is not erased."""
    return all([value is None or value == digit for value, digit in zip(values, word)])


def fitting_words(code, received):
    """Yield the words that fit, ascending; raise BadReceived(place)."""
    values = check_erased(code, received)
    for word in words_of(code):
        if fits(values, word):
            yield word


def fill_best(code, received):
    """Return Filled(word), Several(one, other) or NoWord(); raise BadReceived(place)."""
    words = list(fitting_words(code, received))
    if len(words) == 0:
        return NoWord()
    return Filled(words[0]) if len(words) == 1 else Several(words[0], words[1])


def sure_bits(code, received):
    """Return the digits that all fitting words have, None where they differ, or NoWord(); raise BadReceived(place)."""
    words = list(fitting_words(code, received))
    if len(words) == 0:
        return NoWord()
    ones = [sum([word[bit] for word in words]) for bit in range(code.bits)]
    return tuple([words[0][bit] if many in (0, len(words)) else None for bit, many in enumerate(ones)])


def first_gap(code):
    """Return the first lot that peeling does not end for although no word but 0 is within it, or None."""
    # What peeling leaves of such a lot is one itself and no greater, so the first one is a stop lot.
    masks = [lot_mask(word_lot(word)) for word in words_of(code)]
    for lot in list_stops(code):
        within = lot_mask(lot)
        if len(lot) > 0 and len([1 for mask in masks if mask & within == mask]) == 1:
            return lot
    return None


def received_prices(code, received):
    """Return the prices 1 for 0, -1 for 1 and 0 for an erased bit; raise BadReceived(place)."""
    return tuple([0 if value is None else 1 - 2 * value for value in check_erased(code, received)])


def mend_erased(code, received):
    """Return mend_prices of the received prices; raise BadReceived(place)."""
    return mend_prices(code, received_prices(code, received))


def both_fault(code, flips, erased):
    """Return None, or a cone row that comes on the flips to what it comes to off both lots at least; raise BadLot()."""
    wrong = check_lot(code, flips)
    lost = check_lot(code, erased)
    if any([bit in lost for bit in wrong]):
        raise BadLot()
    prices = [0 if bit in lost else -1 if bit in wrong else 1 for bit in range(code.bits)]
    return zero_sole(code, prices)
