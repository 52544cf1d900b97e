"""Cheapest let rows with papers that prove them, and the shares that a bit has among them."""

from letbychecks.boxes import cheapest_corner
from letbychecks.codes import check_bit, check_prices
from letbychecks.letrows import worst_on
from letbychecks.papers import lot_key, table_paper
from letbychecks.words import cost_of

# Two costs of corners that differ do so by more than 1 over 10 to the 10, for a corner's bottom is at most the
# greatest determinant of ten rows of -1, 0 and 1. So prices times this number stay ahead of any small ones beside them.
GREAT = 1000000000000000


class Cheapest:
    """The cheapest price, a cheapest row that is a corner, and a paper of this price."""

    def __init__(self, price, row, paper):
        self.price = price
        self.row = row
        self.paper = paper


class SpanEnd:
    """The least or the greatest share of a bit among the cheapest rows, such a row, and a paper that proves it."""

    def __init__(self, share, row, times, paper):
        self.share = share
        self.row = row
        self.times = times
        self.paper = paper


class Span:
    """Both ends of the shares that a bit has among the cheapest rows."""

    def __init__(self, low, high):
        self.low = low
        self.high = high


def lot_rule(code, number, lot):
    """Return the rule that the excess of the odd lot is 0 at most."""
    check = code.checks[number]
    slope = [0] * code.bits
    for bit in check:
        slope[bit] = -1 if bit in lot else 1
    return tuple(slope), 1 - len(lot), ("lot", number, lot)


def worst_lot_rule(code, tops, bottom):
    """Return the couple (excess times bottom, rule) of the odd lot that is broken most, (0, None) if none is."""
    lack = 0
    worst = None
    for number, check in enumerate(code.checks):
        lot, excess = worst_on(check, tops, bottom)
        if excess > lack:
            lack = excess
            worst = (number, lot)
    if worst is None:
        return 0, None
    return lack, lot_rule(code, worst[0], worst[1])


def members_paper(members):
    """Return the paper of the weights of the members; the low sides of the box are its rests."""
    lots = {}
    bits = {}
    for rule, weight in members:
        name = rule[2]
        if name[0] == "lot":
            lots[lot_key(name[1], name[2])] = weight
        elif name[0] == "high":
            bits[name[1]] = weight
    return table_paper(lots, bits)


def cheapest_let(code, prices):
    """Return a Cheapest; raise BadPrices(place)."""
    given = check_prices(code, prices)
    row, members = cheapest_corner(code, given, worst_lot_rule)
    return Cheapest(cost_of(given, row), row, members_paper(members))


def span_end(code, prices, bit, sign):
    """Return the SpanEnd of the least (sign 1) or the greatest (sign -1) share of the bit."""
    numbers = [GREAT * price for price in prices]
    numbers[bit] += sign
    row, members = cheapest_corner(code, numbers, worst_lot_rule)
    return SpanEnd(row[bit], row, GREAT, members_paper(members))


def share_range(code, prices, bit):
    """Return a Span; raise BadPrices(place), then BadBit(bit)."""
    given = check_prices(code, prices)
    place = check_bit(code, bit)
    return Span(span_end(code, given, place, 1), span_end(code, given, place, -1))


def cheapest_two(code, prices):
    """Return two cheapest rows, corners, that are unlike unless there is just one."""
    row, members = cheapest_corner(code, prices, worst_lot_rule)
    # The members meet in the row alone, so any other row is further off from one of them. Among the cheapest rows the
    # second one is as far off from all of them together as can be.
    slopes = [rule[0] for rule, _ in members]
    numbers = [GREAT * price - sum([slope[bit] for slope in slopes]) for bit, price in enumerate(prices)]
    return row, cheapest_corner(code, numbers, worst_lot_rule)[0]


def is_sole(code, prices):
    """Tell whether there is just one cheapest row; raise BadPrices(place)."""
    row, other = cheapest_two(code, check_prices(code, prices))
    return row == other
