"""Bits cut and struck, and the small codes that are hidden behind that and fool."""

from letbychecks.codes import check_lot, is_lot, is_order
from letbychecks.errors import BadLot, NotHidden, NothingLeft
from letbychecks.lots import all_lots
from letbychecks.smallcodes import SMALL_BITS, echelon_of, is_small, same_up_to_order, small_code
from letbychecks.words import alike_codes, renamed_code

# The bits of "ten" that cost -1, so that its cheapest let row is no word.
LOW_OF_TEN = (2, 3, 5)


class Hidden:
    """Which small code is left if these lots are cut and struck, and the order that makes it so."""

    def __init__(self, which, cut, struck, order):
        self.which = which
        self.cut = cut
        self.struck = struck
        self.order = order


def bits_left(code, cut, struck):
    """Return the bits in neither lot, ascending."""
    return [bit for bit in range(code.bits) if bit not in cut and bit not in struck]


def small_of(code, cut, struck):
    """Return the code that is left of the words that are 0 on the one lot, without the places of both.

    It has echelon checks. Raise BadLot() for each lot or a common bit, then NothingLeft().
    """
    zeros = check_lot(code, cut)
    dropped = check_lot(code, struck)
    if any([bit in dropped for bit in zeros]):
        raise BadLot()
    left = bits_left(code, zeros, dropped)
    if len(left) == 0:
        raise NothingLeft()
    return echelon_of(code.checks, left, dropped)


def cut_code(code, lot):
    """Return the code of the words that are 0 on the lot, without its places; raise BadLot(), then NothingLeft()."""
    return small_of(code, lot, ())


def struck_code(code, lot):
    """Return the code of the words without the places of the lot; raise BadLot(), then NothingLeft()."""
    return small_of(code, (), lot)


def lots_to_part(code, which):
    """Return couples of lots to cut and to strike that leave as many bits as the small code has, in turn."""
    spare = code.bits - SMALL_BITS[which]
    lots = all_lots(list(range(code.bits)))
    return [(cut, struck) for cut in lots if len(cut) <= spare
            for struck in lots if len(cut) + len(struck) == spare and is_lot((*cut, *struck), code.bits)]


def find_hidden(code):
    """Return the first Hidden, or None if there is none."""
    for which in SMALL_BITS:
        goal = small_code(which)
        for cut, struck in lots_to_part(code, which):
            order = same_up_to_order(small_of(code, cut, struck), goal)
            if order is not None:
                return Hidden(which, cut, struck, order)
    return None


def is_told_lot(code, thing):
    """Tell whether the thing, whatever it is, is an ascending tuple of unlike bits."""
    return isinstance(thing, tuple) and is_lot(thing, code.bits) and list(thing) == sorted(thing)


def is_told_couple(code, which, cut, thing):
    """Tell whether the thing, whatever it is, is a lot beside the one cut that leaves enough bits."""
    if not is_told_lot(code, thing) or not is_lot((*cut, *thing), code.bits):
        return False
    return code.bits - len(cut) - len(thing) == SMALL_BITS[which]


def is_told_order(small, which, thing):
    """Tell whether the thing, whatever it is, is an order that gives the code the words of the small one."""
    return is_order(thing, small.bits) and alike_codes(renamed_code(small, thing), small_code(which)) is None


def hidden_fault(code, hidden):
    """Return None for a right Hidden, else "which", "cut", "struck" or "order"."""
    if not is_small(hidden.which):
        return "which"
    if not is_told_lot(code, hidden.cut):
        return "cut"
    if not is_told_couple(code, hidden.which, hidden.cut, hidden.struck):
        return "struck"
    small = small_of(code, hidden.cut, hidden.struck)
    return None if is_told_order(small, hidden.which, hidden.order) else "order"


def hidden_prices(code, hidden):
    """Return prices at which the code with all its sum checks is fooled; raise NotHidden(what)."""
    what = hidden_fault(code, hidden)
    if what is not None:
        raise NotHidden(what)
    prices = [99 if bit in hidden.cut else 0 for bit in range(code.bits)]
    left = bits_left(code, hidden.cut, hidden.struck)
    for name, place in enumerate(hidden.order):
        prices[left[place]] = 1 if hidden.which == "ten" and name not in LOW_OF_TEN else -1
    return tuple(prices)
