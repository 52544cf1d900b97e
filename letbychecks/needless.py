"""Sum checks that bar no row beyond what two smaller ones bar."""

from letbychecks.codes import check_lot
from letbychecks.errors import NoSum
from letbychecks.words import sum_checks


def sum_of_two(one, other):
    """Return the lot of the bits in just one of two lots."""
    return tuple(sorted([bit for bit in one if bit not in other] + [bit for bit in other if bit not in one]))


def are_parts(lot, one, other):
    """Tell whether two lots whose sum this lot is are both smaller and have one common bit at most."""
    return len(one) < len(lot) and len(other) < len(lot) and len(one) + len(other) <= len(lot) + 2


def parts_among(sums, lot):
    """Return the first couple of lots, by the first one, that makes the lot needless, or None; sums are all ones."""
    for one in sums:
        # The sum of two unlike sum checks is a sum check, so the other one need not be looked for.
        other = sum_of_two(lot, one)
        if are_parts(lot, one, other):
            return one, other
    return None


def needless_parts(code, lot):
    """Return the couple that makes the sum check needless, or None; raise BadLot(), TooMany(63), then NoSum()."""
    bits = check_lot(code, lot)
    sums = sum_checks(code)
    if bits not in sums:
        raise NoSum()
    return parts_among(sums, bits)


def needed_sums(code):
    """Return all sum checks that are not needless, in the order of lots; raise TooMany(63)."""
    sums = sum_checks(code)
    return tuple([lot for lot in sums if parts_among(sums, lot) is None])
