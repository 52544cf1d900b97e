"""Stop lots: lots that no check meets in just one bit."""

from letbychecks.codes import check_lot
from letbychecks.errors import NotStop
from letbychecks.letrows import check_let
from letbychecks.lots import all_lots, is_within
from letbychecks.ratios import HALF, ZERO


def met_bits(check, lot):
    """Return the bits in which the check meets the lot."""
    return [bit for bit in check if bit in lot]


def first_single(code, lot):
    """Return the couple (number, bit) of the first check that meets the lot in just one bit, or None."""
    for number, check in enumerate(code.checks):
        met = met_bits(check, lot)
        if len(met) == 1:
            return number, met[0]
    return None


def stop_fault(code, lot):
    """Return None for a stop lot, else the first check that meets the lot in just one bit; raise BadLot()."""
    single = first_single(code, check_lot(code, lot))
    return None if single is None else single[0]


def check_stop(code, lot):
    """Return the lot as an ascending tuple; raise BadLot(), then NotStop(number)."""
    bits = check_lot(code, lot)
    number = stop_fault(code, bits)
    if number is not None:
        raise NotStop(number)
    return bits


def greatest_stop(code, lot):
    """Return all stop lots within the lot, put together, as one lot; raise BadLot()."""
    bits = check_lot(code, lot)
    single = first_single(code, bits)
    # A bit that a check meets alone is in no stop lot within what is left.
    while single is not None:
        bits = tuple([bit for bit in bits if bit != single[1]])
        single = first_single(code, bits)
    return bits


def list_stops(code):
    """Return a list of all stop lots in the order of lots."""
    return [lot for lot in all_lots(list(range(code.bits))) if first_single(code, lot) is None]


def stop_lots(code):
    """Yield all stop lots in the order of lots."""
    yield from list_stops(code)


def least_stops(code):
    """Return the stop lots that are not empty and hold no other one but the empty one, in the order of lots."""
    least = []
    # A lot within another one is smaller and comes first, so only least ones need be looked for.
    for lot in list_stops(code):
        if len(lot) > 0 and not any([is_within(other, lot) for other in least]):
            least.append(lot)
    return tuple(least)


def joined_stops(code, *lots):
    """Return the lot of all bits of the stop lots; raise BadLot() or NotStop(number) for each in turn."""
    found = {}
    for lot in lots:
        for bit in check_stop(code, lot):
            found[bit] = True
    return tuple(sorted(list(found)))


def stop_row(code, lot):
    """Return the row with the share 1/2 on the stop lot and 0 elsewhere; raise BadLot(), then NotStop(number)."""
    bits = check_stop(code, lot)
    return tuple([HALF if bit in bits else ZERO for bit in range(code.bits)])


def row_support(code, row):
    """Return the lot of the bits whose share is above 0; raise BadRow(place), then NotLet(number, lot)."""
    return tuple([bit for bit, share in enumerate(check_let(code, row)) if share[0] > 0])
