"""Lots of given bits, in the order of lots."""

from letbychecks.words import lot_order


def all_lots(bits):
    """Return a list of all lots of these ascending bits, the empty one first."""
    lots = [()]
    for bit in bits:
        lots = lots + [(*lot, bit) for lot in lots]
    return sorted(lots, key=lot_order)


def sized_lots(bits, many):
    """Return a list of the lots of so many of these ascending bits, ascending."""
    return [lot for lot in all_lots(bits) if len(lot) == many]


def is_within(lot, other):
    """Tell whether all bits of the lot are in the other one."""
    return all([bit in other for bit in lot])
