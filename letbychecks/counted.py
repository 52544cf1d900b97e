"""Which counts the marks of a cover word can have."""

from letbychecks.codes import MOST_SHEETS, odd_check
from letbychecks.cones import check_cone, check_entries, cone_fault
from letbychecks.coverings import cover_of
from letbychecks.errors import OddCount, TooMany
from letbychecks.ratios import lowest


def counted_fault(code, row):
    """Return None for counts of a cover word, else ("cone", number, bit) or ("odd", number); raise BadCone(place)."""
    entries = check_entries(code, row)
    fault = cone_fault(code, entries)
    if fault is not None:
        return "cone", fault[0], fault[1]
    number = odd_check(code, entries)
    if number is not None:
        return "odd", number
    return None


def counted_cover(code, row):
    """Return a Covering with these counts; raise BadCone(place), NotCone, OddCount(number), TooMany(240)."""
    entries = check_cone(code, row)
    number = odd_check(code, entries)
    if number is not None:
        raise OddCount(number)
    halves = [sum([entries[bit] for bit in check]) // 2 for check in code.checks]
    sheets = max([1, *entries, *halves])
    if sheets > MOST_SHEETS:
        raise TooMany(MOST_SHEETS)
    return cover_of(code, [lowest(entry, sheets) for entry in entries], sheets)
