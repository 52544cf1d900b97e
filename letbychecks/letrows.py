"""Rows that checks let: even rows, odd lots, excess, and how far a row stays let.

Shares are worked on as whole numbers, their tops over one common bottom. The
tops of a check are those of its bits, in ascending order, and places count
these bits.
"""

from letbychecks.codes import check_lot, check_number, check_row
from letbychecks.errors import BadLot, NotLet
from letbychecks.ratios import ONE, lowest, over_one_bottom
from letbychecks.ratios import ratio_minus, ratio_over, ratio_plus, ratio_times
from letbychecks.words import lot_order


def even_rows(code, number):
    """Return all even rows of the check, ascending; raise NoCheck(number)."""
    check = code.checks[check_number(code, number)]
    rows = [()]
    for _ in check[1:]:
        rows = [(*row, digit) for row in rows for digit in (0, 1)]
    return tuple([(*row, sum(row) % 2) for row in rows])


def odd_lots_of(check):
    """Return a list of the odd lots of a check in the order of lots."""
    lots = [()]
    for bit in check:
        lots = lots + [(*lot, bit) for lot in lots]
    return sorted([lot for lot in lots if len(lot) % 2 == 1], key=lot_order)


def odd_lots(code, number):
    """Yield all odd lots of the check in the order of lots; raise NoCheck(number)."""
    yield from odd_lots_of(code.checks[check_number(code, number)])


def check_odd_lot(code, number, lot):
    """Return the lot as an ascending tuple; raise BadLot() unless it is an odd lot of the check."""
    bits = check_lot(code, lot)
    if len(bits) % 2 == 0 or not all([bit in code.checks[number] for bit in bits]):
        raise BadLot()
    return bits


def excess_top(check, lot, tops, bottom):
    """Return the excess of an odd lot, times the bottom; the tops are those of all bits."""
    inside = sum([tops[bit] for bit in lot])
    return 2 * inside - sum([tops[bit] for bit in check]) - bottom * (len(lot) - 1)


def excess_of(code, number, lot, row):
    """Return the excess of the odd lot; raise NoCheck(number), BadLot() or BadRow(place)."""
    check = code.checks[check_number(code, number)]
    bits = check_odd_lot(code, number, lot)
    tops, bottom = over_one_bottom(check_row(code, row))
    return lowest(excess_top(check, bits, tops, bottom), bottom)


def best_places(gains, odd):
    """Return the lot of places with the greatest sum of gains among those of odd (1) or even (0) size.

    Among several it is the first in the order of lots. There must be one place at least.
    """
    best = [place for place, gain in enumerate(gains) if gain > 0]
    if len(best) % 2 == odd:
        return best
    least = min([abs(gain) for gain in gains])
    # Smaller lots come first, so the last place that costs least is rather left out than the first one put in.
    spare = [place for place in best if gains[place] == least]
    if len(spare) > 0:
        return [place for place in best if place != spare[-1]]
    more = [place for place, gain in enumerate(gains) if gain == -least]
    return sorted([*best, more[0]])


def worst_places(tops, bottom):
    """Return the couple of the worst odd lot of places of a check and its excess, times the bottom."""
    gains = [2 * top - bottom for top in tops]
    places = best_places(gains, 1)
    return places, sum([gains[place] for place in places]) - sum(tops) + bottom


def worst_on(check, tops, bottom):
    """Return the couple of the worst odd lot of a check and its excess, times the bottom."""
    places, top = worst_places([tops[bit] for bit in check], bottom)
    return tuple([check[place] for place in places]), top


def worst_lot(code, number, row):
    """Return the couple (lot, excess) of the odd lot with the greatest excess; raise NoCheck or BadRow."""
    check = code.checks[check_number(code, number)]
    tops, bottom = over_one_bottom(check_row(code, row))
    lot, top = worst_on(check, tops, bottom)
    return lot, lowest(top, bottom)


def let_fault(code, row):
    """Return None if the row is let, else the first check that does not let it and the worst lot there."""
    tops, bottom = over_one_bottom(check_row(code, row))
    for number, check in enumerate(code.checks):
        lot, top = worst_on(check, tops, bottom)
        if top > 0:
            return number, lot
    return None


def is_let(code, row):
    """Tell whether the row is let; raise BadRow(place)."""
    return let_fault(code, row) is None


def check_let(code, row):
    """Return the row as a tuple; raise BadRow(place), then NotLet(number, lot)."""
    shares = check_row(code, row)
    fault = let_fault(code, shares)
    if fault is not None:
        raise NotLet(fault[0], fault[1])
    return shares


def tight_lots(code, row):
    """Return the couples (number, lot) of all odd lots with the excess 0; raise BadRow(place)."""
    tops, bottom = over_one_bottom(check_row(code, row))
    tight = []
    for number, check in enumerate(code.checks):
        for lot in odd_lots_of(check):
            if excess_top(check, lot, tops, bottom) == 0:
                tight.append((number, lot))
    return tuple(tight)


def row_between(row, other, ratio):
    """Return the row with the shares x + ratio (y - x)."""
    return tuple([ratio_plus(x, ratio_times(ratio, ratio_minus(y, x))) for x, y in zip(row, other)])


def let_between(code, row, other):
    """Return how far, from 0 to 1, one can go from the let row to the other; raise BadRow, NotLet."""
    check_row(code, row)
    goal = check_row(code, other)
    start = check_let(code, row)
    ratio = ONE
    fault = let_fault(code, goal)
    # The excess of a lot rises evenly on the way, so each lot that bars the end of it tells where it begins to bar.
    # Going back to there lets this lot by for good; at last no lot is left.
    while fault is not None:
        number, lot = fault
        low = excess_of(code, number, lot, start)
        high = excess_of(code, number, lot, goal)
        ratio = ratio_over(low, ratio_minus(low, high))
        fault = let_fault(code, row_between(start, goal, ratio))
    return ratio
