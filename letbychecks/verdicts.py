"""Cheapest words, and whether a mender that looks at checks one by one is right or fooled."""

from letbychecks.cheapest import cheapest_let
from letbychecks.codes import check_prices
from letbychecks.ratios import ratio_minus
from letbychecks.words import word_cost, words_of


def priced_words(code, prices):
    """Return couples (cost, word) of all words, ascending by their words; raise BadPrices(place)."""
    given = check_prices(code, prices)
    return [(word_cost(given, word), word) for word in words_of(code)]


def best_word(code, prices):
    """Return the least cost of a word and the first word that has it; raise BadPrices(place)."""
    return min(priced_words(code, prices))


def cheapest_words(code, prices):
    """Yield all words of the least cost, ascending; raise BadPrices(place)."""
    priced = priced_words(code, prices)
    least = min(priced)[0]
    for cost, word in priced:
        if cost == least:
            yield word


def price_gap(code, prices):
    """Return the least cost of a word less the cheapest price; raise BadPrices(place)."""
    least = best_word(code, prices)[0]
    return ratio_minus((least, 1), cheapest_let(code, prices).price)


def verdict_at(code, prices):
    """Return "right" if some word costs no more than each let row, else "fooled"; raise BadPrices(place)."""
    return "right" if price_gap(code, prices)[0] == 0 else "fooled"
