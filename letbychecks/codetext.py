"""Codes, lots and words written as texts and read back."""

from letbychecks.codes import MOST_BITS, MOST_CHECKS, Code
from letbychecks.errors import BadText

DIGITS = "0123456789"


def code_text(code):
    """Return the count of bits and a colon, then the checks."""
    return " ".join([str(code.bits) + ":"] + [lot_text(check) for check in code.checks])


def lot_text(lot):
    """Return the digits of an ascending lot, a minus for the empty one."""
    return "".join([str(bit) for bit in lot]) if len(lot) > 0 else "-"


def word_text(word):
    """Return the digits side by side."""
    return "".join([str(digit) for digit in word])


def check_text(text):
    """Return the text; raise BadText(-1) unless it is a string."""
    if not isinstance(text, str):
        raise BadText(-1)
    return text


def ascending_bits(part, many):
    """Return the tuple of the ascending digits, all below many, of a part, or None if it is no such digits."""
    bits = []
    for sign in part:
        bit = DIGITS.find(sign)
        # A long part is left at the first sign that does not fit.
        if not 0 <= bit < many or len(bits) > 0 and bit <= bits[-1]:
            return None
        bits.append(bit)
    return tuple(bits) if len(bits) > 0 else None


def count_told(part):
    """Return the count of bits that the first part of a code's text tells, or None."""
    for many in range(1, MOST_BITS + 1):
        if part == str(many) + ":":
            return many
    return None


def read_code(text):
    """Return the code of a text; raise BadText(place)."""
    parts = check_text(text).split(" ")
    many = count_told(parts[0])
    if many is None:
        raise BadText(0)
    checks = []
    for place, part in enumerate(parts[1:], 1):
        check = ascending_bits(part, many)
        if check is None or place > MOST_CHECKS:
            raise BadText(place)
        checks.append(check)
    return Code(many, checks)


def read_lot(text):
    """Return the lot of a text; raise BadText(-1) or BadText(0)."""
    if check_text(text) == "-":
        return ()
    lot = ascending_bits(text, MOST_BITS)
    if lot is None:
        raise BadText(0)
    return lot


def read_word(text):
    """Return the digits of a text; raise BadText(-1) or BadText(0)."""
    if not 1 <= len(check_text(text)) <= MOST_BITS or not all([sign == "0" or sign == "1" for sign in text]):
        raise BadText(0)
    return tuple([DIGITS.find(sign) for sign in text])
