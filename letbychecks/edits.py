"""Edits of a code and its prices: checks added and dropped, prices set."""

from letbychecks.codes import MOST_CHECKS, MOST_PRICE, Code, check_lot, check_prices, is_lot
from letbychecks.errors import BadEdit, UnlikeBits
from letbychecks.ratios import is_sequence, is_whole

MOST_EDITS = 40


def is_add(code, edit):
    """Tell whether the thing, a sequence of three, puts in a check."""
    if len(code) == MOST_CHECKS or not is_whole(edit[1], 0, len(code)):
        return False
    return is_lot(edit[2], code.bits) and len(edit[2]) > 0


def is_edit(code, thing):
    """Tell whether the thing, whatever it is, is an edit of the code and its prices."""
    if not is_sequence(thing) or len(thing) == 0 or not isinstance(thing[0], str):
        return False
    if thing[0] == "add":
        return len(thing) == 3 and is_add(code, thing)
    if thing[0] == "drop":
        return len(thing) == 2 and is_whole(thing[1], 0, len(code) - 1)
    if thing[0] == "price" and len(thing) == 3:
        return is_whole(thing[1], 0, code.bits - 1) and is_whole(thing[2], -MOST_PRICE, MOST_PRICE)
    return False


def told_edit(code, edit, place):
    """Return the edit as a tuple, a lot in it ascending; raise BadEdit(place)."""
    if not is_edit(code, edit):
        raise BadEdit(place)
    if edit[0] == "add":
        return "add", edit[1], check_lot(code, edit[2])
    return tuple(edit)


def check_edit(code, edit):
    """Return the edit as a tuple, a lot in it ascending; raise BadEdit(0)."""
    return told_edit(code, edit, 0)


def pair_behind(code, prices, edit):
    """Return the couple (code, prices) behind a checked edit."""
    if edit[0] == "price":
        return code, tuple([edit[2] if bit == edit[1] else price for bit, price in enumerate(prices)])
    checks = list(code.checks)
    if edit[0] == "add":
        checks.insert(edit[1], edit[2])
    else:
        checks.pop(edit[1])
    return Code(code.bits, checks), prices


def edited_pair(code, prices, edit):
    """Return the couple (code, prices) behind the edit; raise BadPrices(place), then BadEdit(0)."""
    given = check_prices(code, prices)
    return pair_behind(code, given, check_edit(code, edit))


def edited_all(code, prices, edits):
    """Return the couple (code, prices) behind all the edits; raise BadPrices(place), then BadEdit(place)."""
    present = check_prices(code, prices)
    if not is_sequence(edits) or len(edits) > MOST_EDITS:
        raise BadEdit(-1)
    changed = code
    for place, edit in enumerate(edits):
        changed, present = pair_behind(changed, present, told_edit(changed, edit, place))
    return changed, present


def edit_back(code, prices, edit):
    """Return the edit that undoes a checked edit."""
    if edit[0] == "add":
        return "drop", edit[1]
    if edit[0] == "drop":
        return "add", edit[1], code.checks[edit[1]]
    return "price", edit[1], prices[edit[1]]


def undo_edit(code, prices, edit):
    """Return the edit that gives back, behind this edit, what is now; raise BadPrices(place), then BadEdit(0)."""
    given = check_prices(code, prices)
    return edit_back(code, given, check_edit(code, edit))


def kept_counts(checks, others):
    """Return a table of how many checks can be kept in their order from the places [one][other] on."""
    table = [[0] * (len(others) + 1) for _ in range(len(checks) + 1)]
    for one in reversed(range(len(checks))):
        for other in reversed(range(len(others))):
            if checks[one] == others[other]:
                table[one][other] = table[one + 1][other + 1] + 1
            else:
                table[one][other] = max(table[one + 1][other], table[one][other + 1])
    return table


def kept_places(checks, others):
    """Return two lists: the places of the most checks that can be kept in their order, in the one and the other."""
    table = kept_counts(checks, others)
    ones = []
    twos = []
    one = 0
    other = 0
    while one < len(checks) and other < len(others):
        if checks[one] == others[other]:
            ones.append(one)
            twos.append(other)
            one += 1
            other += 1
        elif table[one + 1][other] >= table[one][other + 1]:
            one += 1
        else:
            other += 1
    return ones, twos


def edits_between(code, prices, other, other_prices):
    """Return the fewest edits that lead from the code and the prices to the others.

    Raise BadPrices(place), UnlikeBits(), then BadPrices(place) of the others.
    """
    given = check_prices(code, prices)
    if code.bits != other.bits:
        raise UnlikeBits()
    goals = check_prices(other, other_prices)
    ones, twos = kept_places(code.checks, other.checks)
    # What is dropped goes from the last on, so that no number moves before its turn, and goes ahead of all that is
    # added, so that there are never too many checks.
    drops = [("drop", number) for number in reversed(range(len(code))) if number not in ones]
    adds = [("add", number, check) for number, check in enumerate(other.checks) if number not in twos]
    sets = [("price", bit, goal) for bit, goal in enumerate(goals) if goal != given[bit]]
    return tuple(drops + adds + sets)
