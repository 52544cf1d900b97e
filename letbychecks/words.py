"""The words of a code, their costs, sum checks, and codes under other names of bits.

A mask is an integer that stands for a lot: the bit i of the lot is the binary
digit of 2 to the i. The sum of two lots is then one exclusive or.
"""

from letbychecks.codes import MOST_CHECKS, Code, check_digits, check_lot, check_number
from letbychecks.codes import check_word, is_order, odd_check
from letbychecks.errors import BadOrder, BadWord, TooMany, UnlikeBits
from letbychecks.ratios import ONE, ZERO, lowest, ratio_plus


def lot_order(lot):
    """Return a key that sorts lots in the order of lots."""
    return len(lot), lot


def lot_mask(lot):
    """Return the mask of a lot."""
    return sum([1 << bit for bit in lot])


def mask_digits(mask, many):
    """Return so many digits, 1 just on the lot of the mask."""
    return tuple([mask >> bit & 1 for bit in range(many)])


def reduced_masks(masks):
    """Return a dict of masks with the same sums, each under its greatest bit, which no other one has."""
    table = {}
    for mask in masks:
        left = mask
        for top in table:
            if left >> top & 1:
                left ^= table[top]
        if left:
            new = left.bit_length() - 1
            for top in list(table):
                if table[top] >> new & 1:
                    table[top] ^= left
            table[new] = left
    return table


def even_basis(many, masks):
    """Return a list of masks below 2 to the many, of which each one that is even on all the masks is one sum.

    Each has its least bit to itself, in ascending order.
    """
    table = reduced_masks(masks)
    basis = []
    for free in range(many):
        if free not in table:
            basis.append((1 << free) + sum([1 << top for top in table if table[top] >> free & 1]))
    return basis


def spanned_masks(basis):
    """Return the sums of the basis, ascending as rows of digits if the basis is as even_basis gives it."""
    masks = [0]
    for mask in reversed(basis):
        masks = masks + [mask ^ old for old in masks]
    return masks


def check_masks(code):
    """Return the masks of the checks."""
    return [lot_mask(check) for check in code.checks]


def words_of(code):
    """Yield all words, ascending."""
    for mask in spanned_masks(even_basis(code.bits, check_masks(code))):
        yield mask_digits(mask, code.bits)


def word_basis(code):
    """Return words with their first 1 to themselves, of which each word is just one sum."""
    return tuple([mask_digits(mask, code.bits) for mask in even_basis(code.bits, check_masks(code))])


def count_words(code):
    """Return how many words there are."""
    return 1 << len(even_basis(code.bits, check_masks(code)))


def is_word(code, word):
    """Tell whether the thing, whatever it is, is a word of the code."""
    try:
        check_word(code, word)
    except BadWord:
        return False
    return True


def word_fault(code, word):
    """Return None for a word, else the first check on which it is odd; raise BadWord(-1)."""
    return odd_check(code, check_digits(code, word))


def word_lot(word):
    """Return the lot of the bits whose digit is 1."""
    return tuple([bit for bit, digit in enumerate(word) if digit == 1])


def lot_word(code, lot):
    """Return the digits that are 1 just on the lot; raise BadLot()."""
    return mask_digits(lot_mask(check_lot(code, lot)), code.bits)


def row_of_word(word):
    """Return the row with share 1 or 0 for each digit."""
    return tuple([ONE if digit == 1 else ZERO for digit in word])


def word_of_row(row):
    """Return the digits if all shares are 0 or 1, else None."""
    if all([share == ZERO or share == ONE for share in row]):
        return tuple([share[0] for share in row])
    return None


def cost_of(prices, row):
    """Return the sum of price times share, a ratio."""
    cost = ZERO
    for price, (top, bottom) in zip(prices, row):
        cost = ratio_plus(cost, lowest(price * top, bottom))
    return cost


def word_cost(prices, word):
    """Return the sum of the prices at the ones, an integer."""
    return sum([price for price, digit in zip(prices, word) if digit == 1])


def sum_checks(code):
    """Return all sum checks in the order of lots; raise TooMany(63)."""
    table = reduced_masks(check_masks(code))
    if (1 << len(table)) - 1 > MOST_CHECKS:
        raise TooMany(MOST_CHECKS)
    masks = spanned_masks(list(table.values()))
    lots = [word_lot(mask_digits(mask, code.bits)) for mask in masks if mask]
    return tuple(sorted(lots, key=lot_order))


def is_sum_check(code, lot):
    """Tell whether the lot is a sum check, however many there are; raise BadLot()."""
    mask = lot_mask(check_lot(code, lot))
    masks = check_masks(code)
    # A lot is a sum of checks exactly if it adds nothing to what they span.
    return mask != 0 and len(reduced_masks([*masks, mask])) == len(reduced_masks(masks))


def sum_of_checks(code, numbers):
    """Return the lot that is the sum of the numbered checks; raise NoCheck(number)."""
    masks = check_masks(code)
    mask = 0
    for number in numbers:
        mask ^= masks[check_number(code, number)]
    return word_lot(mask_digits(mask, code.bits))


def with_sums(code):
    """Return the code whose checks are all sum checks; raise TooMany(63)."""
    return Code(code.bits, sum_checks(code))


def alike_codes(one, other):
    """Return None if both have the same words, else the first that just one has; raise UnlikeBits()."""
    if one.bits != other.bits:
        raise UnlikeBits()
    mine = list(words_of(one))
    others = list(words_of(other))
    unlike = sorted(set(mine) ^ set(others))
    return unlike[0] if len(unlike) > 0 else None


def renamed_code(code, order):
    """Return the code in which the bit order[i] is called i; raise BadOrder()."""
    if not is_order(order, code.bits):
        raise BadOrder()
    names = {bit: name for name, bit in enumerate(order)}
    return Code(code.bits, [[names[bit] for bit in check] for check in code.checks])


def renamed_things(things, order):
    """Return the tuple of things[order[0]], things[order[1]] and so on; raise BadOrder()."""
    if not is_order(order, len(things)):
        raise BadOrder()
    return tuple([things[place] for place in order])
