"""Lots of flips: which are mended, whatever word was sent."""

from letbychecks.codes import check_lot
from letbychecks.cones import zero_sole
from letbychecks.errors import BadMany
from letbychecks.lots import sized_lots
from letbychecks.ratios import is_whole
from letbychecks.rays import bars_from


class Flips:
    """The greatest number of flips that are always mended, the first lot of one more that is not, and a row."""

    def __init__(self, many, lot, row):
        self.many = many
        self.lot = lot
        self.row = row


def flip_prices(code, lot):
    """Return the prices -1 on the lot and 1 elsewhere; raise BadLot()."""
    bits = check_lot(code, lot)
    return tuple([-1 if bit in bits else 1 for bit in range(code.bits)])


def flip_fault(code, lot):
    """Return None if the lot of flips is mended, else a cone row that bars it; raise BadLot()."""
    return zero_sole(code, flip_prices(code, lot))


def is_barred(row, lot):
    """Tell whether the entries on the lot come to those off it at least."""
    return 2 * sum([row[bit] for bit in lot]) >= sum(row)


def barring_row(code, lot, known):
    """Return a cone row that bars the lot, or None; a row that was not known yet is put to the known ones."""
    for row in known:
        if is_barred(row, lot):
            return row
    row = flip_fault(code, lot)
    if row is not None:
        known.append(row)
    return row


def barred_lots(code, many):
    """Yield all lots of so many bits that are not mended, ascending; raise BadMany(many)."""
    if not is_whole(many, 0, code.bits):
        raise BadMany(many)
    known = []
    for lot in sized_lots(list(range(code.bits)), many):
        if barring_row(code, lot, known) is not None:
            yield lot


def first_barred(code, many, known):
    """Return the couple of the first lot of so many bits that is not mended and a row that bars it, or None."""
    for lot in sized_lots(list(range(code.bits)), many):
        row = barring_row(code, lot, known)
        if row is not None:
            return lot, row
    return None


def greatest_flips(code):
    """Return the Flips of the code."""
    row = flip_fault(code, list(range(code.bits)))
    if row is None:
        return Flips(code.bits, None, None)
    known = [row]
    # A row that bars a lot of so many bits bars one of the fewest that it bars from, so this number only falls.
    many = bars_from(code, row) - 1
    barred = first_barred(code, many, known)
    while barred is not None:
        many = bars_from(code, barred[1]) - 1
        barred = first_barred(code, many, known)
    lot, row = first_barred(code, many + 1, known)
    return Flips(many, lot, row)
