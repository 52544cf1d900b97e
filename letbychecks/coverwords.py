"""Marks of the copies of bits in a cover, cover words, and what checks see of them."""

from letbychecks.codes import check_number, is_digits, is_long
from letbychecks.covers import copy_lots
from letbychecks.errors import BadMarks, TooMany
from letbychecks.ratios import is_whole, lowest
from letbychecks.words import even_basis, lot_mask, mask_digits, spanned_masks

MOST_COPIES = 60
MOST_COVER_WORDS = 4096


def check_marks(cover, marks):
    """Return the marks as tuples; raise BadMarks(place)."""
    if not is_long(marks, cover.code.bits):
        raise BadMarks(-1)
    for bit, copies in enumerate(marks):
        if not is_digits(copies, cover.sheets):
            raise BadMarks(bit)
    return tuple([tuple(copies) for copies in marks])


def seen_digits(cover, marks, number):
    """Return what each copy of the check sees, sheet by sheet, of marks that are tuples."""
    places = list(zip(cover.code.checks[number], cover.wires[number]))
    return [tuple([marks[bit][wire[sheet]] for bit, wire in places]) for sheet in range(cover.sheets)]


def coverword_fault(cover, marks):
    """Return None for a cover word, else the first couple (check, copy) that is not even; raise BadMarks(place)."""
    given = check_marks(cover, marks)
    for number in range(len(cover.code)):
        for copy, digits in enumerate(seen_digits(cover, given, number)):
            if sum(digits) % 2 == 1:
                return number, copy
    return None


def is_cover_word(cover, marks):
    """Tell whether the marks are a cover word; raise BadMarks(place)."""
    return coverword_fault(cover, marks) is None


def same_on_all(cover, word):
    """Return the marks that have the digits of the word on each sheet; raise BadMarks(place)."""
    if not is_long(word, cover.code.bits):
        raise BadMarks(-1)
    for place, digit in enumerate(word):
        if not is_whole(digit, 0, 1):
            raise BadMarks(place)
    return tuple([(digit,) * cover.sheets for digit in word])


def cover_words(cover):
    """Yield all cover words, ascending; raise TooMany(60) for copies of bits, then TooMany(4096) for words."""
    sheets = cover.sheets
    many = cover.code.bits * sheets
    if many > MOST_COPIES:
        raise TooMany(MOST_COPIES)
    basis = even_basis(many, [lot_mask(lot) for lot in copy_lots(cover)])
    if 1 << len(basis) > MOST_COVER_WORDS:
        raise TooMany(MOST_COVER_WORDS)
    for mask in spanned_masks(basis):
        digits = mask_digits(mask, many)
        yield tuple([digits[start:start + sheets] for start in range(0, many, sheets)])


def average_row(cover, marks):
    """Return the row of the shares of copies that are marked 1; raise BadMarks(place)."""
    return tuple([lowest(sum(copies), cover.sheets) for copies in check_marks(cover, marks)])


def seen_rows(cover, marks, number):
    """Return couples (row, weight) of what the copies of the check see; raise BadMarks(place), NoCheck(number)."""
    given = check_marks(cover, marks)
    seen = {}
    for digits in seen_digits(cover, given, check_number(cover.code, number)):
        seen[digits] = seen.get(digits, 0) + 1
    return tuple([(digits, lowest(seen[digits], cover.sheets)) for digits in sorted(list(seen))])
