"""Covers with a cover word whose average is a let row, and the rows that are such averages."""

from letbychecks.codes import MOST_SHEETS, check_row
from letbychecks.covers import Cover
from letbychecks.errors import BadSheets, TooMany
from letbychecks.letrows import check_let, worst_places
from letbychecks.mixtures import even_parts, sheets_of
from letbychecks.ratios import is_whole, lowest

MOST_ROWS = 4096


class Covering:
    """A cover and a cover word of it."""

    def __init__(self, cover, marks):
        self.cover = cover
        self.marks = marks


def fit_sheets(least, sheets):
    """Return the number of sheets to take; raise BadSheets(sheets), or TooMany(240) if none is told."""
    if sheets is not None and (not is_whole(sheets, 1, MOST_SHEETS) or sheets % least != 0):
        raise BadSheets(sheets)
    if least > MOST_SHEETS:
        raise TooMany(MOST_SHEETS)
    return least if sheets is None else sheets


def wire_for(digits, marked):
    """Return a wire that sees a marked copy just on the sheets with the digit 1; the first copies are marked."""
    low = 0
    high = marked
    wire = []
    for digit in digits:
        if digit == 1:
            wire.append(low)
            low += 1
        else:
            wire.append(high)
            high += 1
    return wire


def cover_of(code, row, sheets=None):
    """Return a Covering whose average is the row; raise BadRow, BadSheets(sheets), TooMany(240), NotLet."""
    shares = check_row(code, row)
    many = fit_sheets(sheets_of(code, shares), sheets)
    check_let(code, shares)
    marked = [top * (many // bottom) for top, bottom in shares]
    wires = []
    for number, check in enumerate(code.checks):
        seen = even_parts(code, number, shares, many)
        wires.append([wire_for([even[place] for even in seen], marked[bit]) for place, bit in enumerate(check)])
    marks = tuple([(1,) * top + (0,) * (many - top) for top in marked])
    return Covering(Cover(code, many, wires), marks)


def is_average(code, tops, sheets):
    """Tell whether the tops are even in sum on each check and let, over so many sheets."""
    for check in code.checks:
        own = [tops[bit] for bit in check]
        if sum(own) % 2 == 1 or worst_places(own, sheets)[1] > 0:
            return False
    return True


def check_row_count(code, sheets):
    """Return None; raise TooMany(4096) if there are more rows than that of tops from 0 to the sheets."""
    many = 1
    for _ in range(code.bits):
        many = many * (sheets + 1)
    if many > MOST_ROWS:
        raise TooMany(MOST_ROWS)


def rows_on_sheets(code, sheets):
    """Yield, ascending, all averages of cover words on so many sheets; raise BadSheets(sheets), TooMany(4096)."""
    if not is_whole(sheets, 1, MOST_SHEETS):
        raise BadSheets(sheets)
    check_row_count(code, sheets)
    rows = [()]
    for _ in range(code.bits):
        rows = [(*row, top) for row in rows for top in range(sheets + 1)]
    for tops in rows:
        if is_average(code, tops, sheets):
            yield tuple([lowest(top, sheets) for top in tops])
