"""Covers of a code: copies of bits and checks on sheets, and the wires between them."""

from letbychecks.codes import MOST_BITS, MOST_CHECKS, MOST_SHEETS, Code, check_number, is_long, is_order
from letbychecks.errors import BadCover, BadWire, TooMany, UnlikeCode
from letbychecks.ratios import is_whole
from letbychecks.webrings import joined_groups


def check_sheets(sheets):
    """Return the number of sheets; raise BadCover("sheets", -1) unless a cover can have so many."""
    if not is_whole(sheets, 1, MOST_SHEETS):
        raise BadCover("sheets", -1)
    return sheets


def is_wiring(thing, check, sheets):
    """Tell whether the thing has, for each bit of the check, each copy of it once."""
    return is_long(thing, len(check)) and all([is_order(wire, sheets) for wire in thing])


class Cover:
    """A number of sheets of a code, and for each check and each of its bits the copies that are seen."""

    def __init__(self, code, sheets, wires):
        check_sheets(sheets)
        if not is_long(wires, len(code)):
            raise BadCover("many", -1)
        for number, check in enumerate(code.checks):
            if not is_wiring(wires[number], check, sheets):
                raise BadCover("wire", number)
        self.code = code
        self.sheets = sheets
        self.wires = tuple([tuple([tuple(wire) for wire in wiring]) for wiring in wires])

    def __eq__(self, other):
        return (isinstance(other, Cover) and self.code == other.code and self.sheets == other.sheets
                and self.wires == other.wires)


def plain_cover(code, sheets):
    """Return the cover in which each copy sees the copies of its own sheet; raise BadCover."""
    own = tuple(range(check_sheets(sheets)))
    return Cover(code, sheets, [[own for _ in check] for check in code.checks])


def crossed_wire(cover, number, bit, one, other):
    """Return the cover with the copies one and other of the bit exchanged for the check; raise NoCheck, BadWire()."""
    check = cover.code.checks[check_number(cover.code, number)]
    last = cover.sheets - 1
    if not is_whole(bit) or bit not in check:
        raise BadWire()
    if not is_whole(one, 0, last) or not is_whole(other, 0, last) or one == other:
        raise BadWire()
    wires = [list(wiring) for wiring in cover.wires]
    place = check.index(bit)
    turned = {one: other, other: one}
    wires[number][place] = [turned.get(copy, copy) for copy in cover.wires[number][place]]
    return Cover(cover.code, cover.sheets, wires)


def joined_covers(one, other):
    """Return the cover with the sheets of one and behind them those of other; raise UnlikeCode(), TooMany(240)."""
    if one.code != other.code:
        raise UnlikeCode()
    if one.sheets + other.sheets > MOST_SHEETS:
        raise TooMany(MOST_SHEETS)
    wires = []
    for wiring, more in zip(one.wires, other.wires):
        wires.append([low + tuple([copy + one.sheets for copy in high]) for low, high in zip(wiring, more)])
    return Cover(one.code, one.sheets + other.sheets, wires)


def copy_lots(cover):
    """Return, for each copy of each check, the lot of the copies it sees: copy t of bit i is i M + t."""
    lots = []
    for check, wiring in zip(cover.code.checks, cover.wires):
        for sheet in range(cover.sheets):
            lots.append(tuple([bit * cover.sheets + wire[sheet] for bit, wire in zip(check, wiring)]))
    return lots


def cover_code(cover):
    """Return the cover as a code; raise TooMany(10) for its bits, then TooMany(63) for its checks."""
    if cover.code.bits * cover.sheets > MOST_BITS:
        raise TooMany(MOST_BITS)
    if len(cover.code) * cover.sheets > MOST_CHECKS:
        raise TooMany(MOST_CHECKS)
    return Code(cover.code.bits * cover.sheets, copy_lots(cover))


def cover_pieces(cover):
    """Return the copies (bit, copy) in pieces that hang together, by their first couples."""
    groups = joined_groups(cover.code.bits * cover.sheets, copy_lots(cover))
    return tuple([tuple([(copy // cover.sheets, copy % cover.sheets) for copy in group]) for group in groups])
