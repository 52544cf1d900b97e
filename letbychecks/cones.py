"""Cone rows, and whether the row of zeros is the sole cheapest let row."""

from letbychecks.boxes import cheapest_corner
from letbychecks.codes import check_prices, is_long
from letbychecks.edges import primitive
from letbychecks.errors import BadCone, NotCone
from letbychecks.mixtures import is_weight
from letbychecks.papers import ascends
from letbychecks.ratios import is_sequence, is_whole, lowest, over_one_bottom, ratio_minus, ratio_plus

# A corner of the cone rows of shares that costs above 0 costs more than 1 over 10 to the 5, for its bottom is at most
# the greatest determinant of ten rows of -1, 0 and 1. So prices times this number stay ahead of 1 for each share.
GREAT = 10000000


def check_entries(code, row):
    """Return the entries as a tuple; raise BadCone(place)."""
    if not is_long(row, code.bits):
        raise BadCone(-1)
    for place, entry in enumerate(row):
        if not is_whole(entry, 0):
            raise BadCone(place)
    return tuple(row)


def cone_fault(code, row):
    """Return None for a cone row, else the first check and in it the first bit at fault; raise BadCone(place)."""
    entries = check_entries(code, row)
    for number, check in enumerate(code.checks):
        total = sum([entries[bit] for bit in check])
        for bit in check:
            if 2 * entries[bit] > total:
                return number, bit
    return None


def check_cone(code, row):
    """Return the entries as a tuple; raise BadCone(place), then NotCone(number, bit)."""
    entries = check_entries(code, row)
    fault = cone_fault(code, entries)
    if fault is not None:
        raise NotCone(fault[0], fault[1])
    return entries


def small_row(code, row):
    """Return the row of each entry over twice the sum of all; raise BadCone(place), then NotCone(number, bit)."""
    entries = check_cone(code, row)
    # The row of zeros stays what it is over any bottom.
    bottom = max(2 * sum(entries), 1)
    return tuple([lowest(entry, bottom) for entry in entries])


def cone_slope(code, number, bit):
    """Return the slope of the rule that the other entries of the check come to the bit's at least."""
    slope = [0] * code.bits
    for other in code.checks[number]:
        slope[other] = 1
    slope[bit] = -1
    return tuple(slope)


def worst_cone_rule(code, tops, bottom):
    """Return the couple (lack times bottom, rule) of the check and bit most at fault, (0, None) if none are."""
    lack = 0
    worst = None
    for number, check in enumerate(code.checks):
        own = [tops[bit] for bit in check]
        high = max(own)
        if 2 * high - sum(own) > lack:
            lack = 2 * high - sum(own)
            worst = ("cone", number, check[own.index(high)])
    if worst is None:
        return 0, None
    return lack, (cone_slope(code, worst[1], worst[2]), 0, worst)


def cheapest_cone(code, prices):
    """Return a cone row of shares and its members, cheapest at prices that are a little less than these ones.

    It is the row of zeros exactly if each other cone row costs more than 0 at the prices.
    """
    return cheapest_corner(code, [GREAT * price - 1 for price in prices], worst_cone_rule)


def zero_sole(code, prices):
    """Return None if each cone row but 0 costs more than 0, else one that does not; raise BadPrices(place)."""
    row, _ = cheapest_cone(code, check_prices(code, prices))
    tops, _ = over_one_bottom(row)
    return primitive(tops) if sum(tops) > 0 else None


def sole_paper(code, prices):
    """Return a sole paper, or None if there is none; raise BadPrices(place)."""
    row, members = cheapest_cone(code, check_prices(code, prices))
    if any([share[0] > 0 for share in row]):
        return None
    # As the row costs 0, the upper sides of the box have the weight 0. So with the other weights each price that is
    # less by 1 comes to 0 at least, and the price itself to 1.
    paper = []
    for rule, weight in members:
        if rule[2][0] == "cone" and weight[0] > 0:
            paper.append((rule[2][1], rule[2][2], lowest(weight[0], weight[1] * GREAT)))
    return tuple(sorted(paper))


def is_place(code, number, bit):
    """Tell whether these are the number of a check and a bit of it."""
    return is_whole(number, 0, len(code) - 1) and is_whole(bit) and bit in code.checks[number]


def is_placed(code, paper):
    """Tell whether the paper is a sequence of triples that begin with a check and a bit of it, ascending."""
    if not is_sequence(paper) or not all([is_long(entry, 3) for entry in paper]):
        return False
    if not all([is_place(code, entry[0], entry[1]) for entry in paper]):
        return False
    return ascends([(entry[0], entry[1]) for entry in paper])


def paper_sums(code, prices, paper):
    """Return what the prices and the weights of the paper come to at each bit."""
    sums = [(price, 1) for price in prices]
    for number, bit, weight in paper:
        for other in code.checks[number]:
            if other == bit:
                sums[other] = ratio_plus(sums[other], weight)
            else:
                sums[other] = ratio_minus(sums[other], weight)
    return sums


def sole_paper_fault(code, prices, paper):
    """Return None for a sole paper, else "place", "weight" or "bit"; raise BadPrices(place)."""
    given = check_prices(code, prices)
    if not is_placed(code, paper):
        return "place"
    if not all([is_weight(entry[2]) for entry in paper]):
        return "weight"
    if not all([total[0] > 0 for total in paper_sums(code, given, paper)]):
        return "bit"
    return None
