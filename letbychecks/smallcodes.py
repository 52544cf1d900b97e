"""Echelon checks, codes alike up to the order of their bits, and the three small codes that fool."""

from letbychecks.codes import Code
from letbychecks.errors import NoSmall
from letbychecks.words import check_masks, count_words, even_basis, mask_digits, reduced_masks, spanned_masks, word_lot

SMALL_BITS = {"seven": 7, "five": 10, "ten": 10}
SMALL_CHECKS = {
    "seven": ((0, 1, 2), (0, 3, 4), (1, 3, 5), (2, 3, 6)),
    "five": ((0, 1, 4), (0, 2, 5), (0, 3, 6), (1, 2, 7), (1, 3, 8), (2, 3, 9)),
    "ten": ((0, 5, 6, 9), (1, 5, 6, 7), (2, 6, 7, 8), (3, 7, 8, 9), (4, 5, 8, 9)),
}


def echelon_of(checks, left, struck):
    """Return the code on the bits left whose words are those of the checks, where struck bits are dropped from them.

    Both are lots of bits. Bits in neither lot are 0 in the words and dropped as well. The code has echelon checks.
    """
    last = len(left) - 1
    # Reduced masks are told apart by their greatest bits. So the order of the bits left is turned round, and the bits
    # struck are the greatest of all: the masks without them are then those under the other ones.
    names = {bit: last - place for place, bit in enumerate(left)}
    for place, gone in enumerate(struck):
        names[gone] = len(left) + place
    table = reduced_masks([sum([1 << names[bit] for bit in check if bit in names]) for check in checks])
    lots = [word_lot(mask_digits(table[top], len(left))) for top in table if top <= last]
    return Code(len(left), sorted([tuple([last - bit for bit in reversed(lot)]) for lot in lots]))


def echelon_code(code):
    """Return the code of the same bits and words with its echelon checks."""
    return echelon_of(code.checks, list(range(code.bits)), ())


def few_vectors(code):
    """Return all words as digits, or all sums of checks if these are fewer."""
    masks = check_masks(code)
    basis = even_basis(code.bits, masks)
    table = reduced_masks(masks)
    if len(table) < len(basis):
        basis = list(table.values())
    return [mask_digits(mask, code.bits) for mask in spanned_masks(basis)]


def begun_vectors(vectors, bits):
    """Return what the vectors are on these bits, each behind the count of all its ones, ascending."""
    return sorted([(sum(vector), [vector[bit] for bit in bits]) for vector in vectors])


def longer_order(vectors, goals, order):
    """Return an order that begins with these places, or None.

    The vectors must agree, on the first k bits of the order, with the goal of the number k.
    """
    if len(order) == len(vectors[0]):
        return order
    tried = {}
    for bit in range(len(vectors[0])):
        # Of bits that are alike in all vectors it is enough to try the first.
        column = tuple([vector[bit] for vector in vectors])
        if bit not in order and column not in tried:
            tried[column] = True
            longer = (*order, bit)
            if begun_vectors(vectors, longer) == goals[len(longer)]:
                found = longer_order(vectors, goals, longer)
                if found is not None:
                    return found
    return None


def same_up_to_order(one, other):
    """Return an order for which the first code, renamed by it, has the words of the other, or None."""
    if one.bits != other.bits or count_words(one) != count_words(other):
        return None
    vectors = few_vectors(one)
    others = few_vectors(other)
    goals = [begun_vectors(others, list(range(many))) for many in range(one.bits + 1)]
    return longer_order(vectors, goals, ()) if begun_vectors(vectors, ()) == goals[0] else None


def is_small(which):
    """Tell whether the thing, whatever it is, names one of the three codes."""
    return isinstance(which, str) and which in SMALL_CHECKS


def small_code(which):
    """Return the code "seven", "five" or "ten"; raise NoSmall(which)."""
    if not is_small(which):
        raise NoSmall(which)
    return Code(SMALL_BITS[which], SMALL_CHECKS[which])
