"""Mixtures of even rows on one check, numbers of sheets, and blends of rows."""

from letbychecks.codes import MOST_SHEETS, check_number, check_row, is_digits, is_long
from letbychecks.errors import BadRow, BadRows, BadSheets, BadWeights, NotLet
from letbychecks.letrows import worst_lot, worst_places
from letbychecks.ratios import ONE, ZERO, is_ratio, is_sequence, is_whole, lowest
from letbychecks.ratios import over_one_bottom, ratio_plus, ratio_sum, ratio_times

MOST_ROWS = 64


def odd_after(odd, tops, sheets):
    """Return on how many sheets the ones up to the first of these bits can be odd, at the least.

    They are odd on so many sheets ahead of it, and the bits behind it let the number by.
    """
    least = abs(odd - tops[0])
    if len(tops) == 1:
        return least
    return max(least, worst_places(tops[1:], sheets)[1])


def longer_pieces(pieces, ones):
    """Return the pieces, ascending like the given ones, with one digit more: 1 on so many even and odd sheets."""
    left = list(ones)
    longer = []
    for row, many in pieces:
        odd = sum(row) % 2
        marked = min(many, left[odd])
        left[odd] -= marked
        if many > marked:
            longer.append(((*row, 0), many - marked))
        if marked > 0:
            longer.append(((*row, 1), marked))
    return longer


def even_pieces(tops, sheets):
    """Return couples (even row, how many sheets), ascending, that meet the tops of a check.

    The tops must be let and even in sum. The check is gone through bit by bit: on each sheet the digits so far
    are odd or even, and it is enough to choose on how many sheets they are odd.
    """
    pieces = [((), sheets)]
    odd = 0
    for place, top in enumerate(tops):
        later = odd_after(odd, tops[place:], sheets)
        pieces = longer_pieces(pieces, ((top + later - odd) // 2, (top + odd - later) // 2))
        odd = later
    return pieces


def let_on_check(code, number, row):
    """Return None; raise NotLet(number, lot) if this check does not let the row."""
    lot, excess = worst_lot(code, number, row)
    if excess[0] > 0:
        raise NotLet(number, lot)


def mixture_of(code, number, row):
    """Return a mixture of the check for the row; raise NoCheck(number), BadRow(place), NotLet(number, lot)."""
    check = code.checks[check_number(code, number)]
    shares = check_row(code, row)
    let_on_check(code, number, shares)
    tops, sheets = over_one_bottom([shares[bit] for bit in check])
    if sum(tops) % 2 == 1:
        tops = tuple([2 * top for top in tops])
        sheets = 2 * sheets
    return tuple([(even, lowest(many, sheets)) for even, many in even_pieces(tops, sheets)])


def is_even_row(thing, many):
    """Tell whether the thing is an even row of a check of so many bits."""
    return is_digits(thing, many) and sum(thing) % 2 == 0


def is_weight(thing):
    """Tell whether the thing is a ratio above 0."""
    return is_ratio(thing) and thing[0] > 0


def mixture_fault(code, number, row, mixture):
    """Return None for a mixture of the check for the row, else "even", "weight" or "share"."""
    check = code.checks[check_number(code, number)]
    shares = check_row(code, row)
    if not is_sequence(mixture):
        return "even"
    if not all([is_long(item, 2) and is_even_row(item[0], len(check)) for item in mixture]):
        return "even"
    if not all([is_weight(item[1]) for item in mixture]) or ratio_sum([item[1] for item in mixture]) != ONE:
        return "weight"
    for place, bit in enumerate(check):
        if ratio_sum([weight for even, weight in mixture if even[place] == 1]) != shares[bit]:
            return "share"
    return None


def sheets_of(code, row):
    """Return the least number of sheets for the row; raise BadRow(place)."""
    tops, bottom = over_one_bottom(check_row(code, row))
    if all([sum([tops[bit] for bit in check]) % 2 == 0 for check in code.checks]):
        return bottom
    return 2 * bottom


def tops_on_sheets(shares, sheets):
    """Return the shares times the sheets, or None unless they are whole and even in sum."""
    tops, bottom = over_one_bottom(shares)
    if sheets % bottom != 0 or sum(tops) * (sheets // bottom) % 2 == 1:
        return None
    return tuple([top * (sheets // bottom) for top in tops])


def even_parts(code, number, row, sheets):
    """Return so many even rows, ascending, that meet the row; raise NoCheck, BadRow, BadSheets, NotLet."""
    check = code.checks[check_number(code, number)]
    shares = check_row(code, row)
    if not is_whole(sheets, 1, MOST_SHEETS):
        raise BadSheets(sheets)
    tops = tops_on_sheets([shares[bit] for bit in check], sheets)
    if tops is None:
        raise BadSheets(sheets)
    let_on_check(code, number, shares)
    return tuple([even for even, many in even_pieces(tops, sheets) for _ in range(many)])


def check_rows(code, rows):
    """Return the rows as a tuple of tuples; raise BadRows(number)."""
    if not is_sequence(rows) or not 1 <= len(rows) <= MOST_ROWS:
        raise BadRows(-1)
    kept = []
    for number, row in enumerate(rows):
        try:
            kept.append(check_row(code, row))
        except BadRow:
            raise BadRows(number) from None
    return tuple(kept)


def check_weights(weights, many):
    """Return the weights as a tuple; raise BadWeights(place)."""
    if not is_long(weights, many):
        raise BadWeights(-1)
    for place, weight in enumerate(weights):
        if not is_ratio(weight) or weight[0] < 0:
            raise BadWeights(place)
    if ratio_sum(weights) != ONE:
        raise BadWeights(-1)
    return tuple(weights)


def blend_of(code, rows, weights):
    """Return the row of the sums of weight times share; raise BadRows(number), then BadWeights(place)."""
    parts = check_rows(code, rows)
    shares = [ZERO] * code.bits
    for row, weight in zip(parts, check_weights(weights, len(parts))):
        shares = [ratio_plus(share, ratio_times(weight, more)) for share, more in zip(shares, row)]
    return tuple(shares)
