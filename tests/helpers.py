"""What several tests use: small codes and rows, and slow ways to know what the program must return."""

from fractions import Fraction
from itertools import combinations, product
from random import Random

from letbychecks.codes import Code
from letbychecks.covers import Cover

FIVE = Code(5, ((0, 1), (0, 1, 2), (2, 3, 4), (3, 4)))
HALF_ROW = ((1, 2), (1, 2), (1, 1), (1, 2), (1, 2))

# Things that are no number, no sequence of numbers, and the like.
ODD_THINGS = (None, True, False, "", "01", 1.0, -1, b"01", {}, set(), object(), (), [[]], ((),), (None,), [True, 1])


def ratio(number):
    """The ratio of a fraction or an integer."""
    number = Fraction(number)
    return (number.numerator, number.denominator)


def ratios(*numbers):
    """The row of ratios of fractions, integers or strings such as 1/2."""
    return tuple(ratio(number) for number in numbers)


def fractions(row):
    """The fractions of a row of ratios."""
    return [Fraction(*share) for share in row]


def lots_of(bits, sizes=None):
    """All lots of these bits in the order of lots, of these sizes."""
    bits = sorted(bits)
    sizes = range(len(bits) + 1) if sizes is None else sizes
    return [lot for size in sizes for lot in combinations(bits, size)]


def odd_lots_by_hand(check):
    """All odd lots of a check in the order of lots."""
    return lots_of(check, range(1, len(check) + 1, 2))


def excess_by_hand(check, lot, row):
    """The excess as [2.2] tells it."""
    shares = fractions(row)
    inside = sum(shares[bit] for bit in lot)
    outside = sum(shares[bit] for bit in check if bit not in lot)
    return inside - outside - len(lot) + 1


def worst_by_hand(check, row):
    """The couple of worst lot and excess, the first in the order of lots."""
    best = None
    for lot in odd_lots_by_hand(check):
        excess = excess_by_hand(check, lot, row)
        if best is None or excess > best[1]:
            best = (lot, excess)
    return best


def fault_by_hand(code, row):
    """What let_fault must return."""
    for number, check in enumerate(code.checks):
        lot, excess = worst_by_hand(check, row)
        if excess > 0:
            return (number, lot)
    return None


def words_by_hand(code):
    """All words, ascending."""
    return [word for word in product((0, 1), repeat=code.bits)
            if all(sum(word[bit] for bit in check) % 2 == 0 for check in code.checks)]


def sums_by_hand(code):
    """All sum checks in the order of lots."""
    sums = {frozenset()}
    for check in code.checks:
        sums |= {lot ^ frozenset(check) for lot in sums}
    return tuple(sorted((tuple(sorted(lot)) for lot in sums if lot), key=lambda lot: (len(lot), lot)))


def some_code(random, most_bits=6, most_checks=5):
    """A code by chance."""
    bits = random.randint(1, most_bits)
    checks = [random.sample(range(bits), random.randint(1, bits)) for _ in range(random.randint(0, most_checks))]
    return Code(bits, checks)


def some_codes(seed, many, most_bits=6, most_checks=5):
    """Codes by chance, the same ones in each run."""
    random = Random(seed)
    return [some_code(random, most_bits, most_checks) for _ in range(many)]


def some_row(random, bits, bottoms=(1, 2, 3, 4, 6)):
    """A row by chance, let or not."""
    bottom = random.choice(bottoms)
    return tuple(ratio(Fraction(random.randint(0, bottom), bottom)) for _ in range(bits))


def some_cover(random, code, sheets):
    """A cover by chance."""
    wires = [[random.sample(range(sheets), sheets) for _ in check] for check in code.checks]
    return Cover(code, sheets, wires)


def blend_by_hand(rows, weights):
    """The row of sums of weight times share, of fractions and digits or fractions."""
    return tuple(sum(weight * share for weight, share in zip(weights, column)) for column in zip(*rows))


def let_row_on(random, bits, check, steps=4):
    """A row by chance that is let on this check: an average of rows of digits that are even on it."""
    rows = []
    for _ in range(random.randint(1, steps)):
        digits = [random.randint(0, 1) for _ in range(bits)]
        if sum(digits[bit] for bit in check) % 2 == 1:
            digits[random.choice(check)] ^= 1
        rows.append(digits)
    weights = [Fraction(random.randint(1, 4)) for _ in rows]
    weights = [weight / sum(weights) for weight in weights]
    return tuple(ratio(share) for share in blend_by_hand(rows, weights))


def grid_rows(bits, bottom):
    """All rows with this bottom, ascending."""
    return [tuple(ratio(Fraction(top, bottom)) for top in tops) for tops in product(range(bottom + 1), repeat=bits)]


class Raises:
    """For test cases: judge the class and the fields of an error."""

    def fails(self, wanted, told, call, *arguments, **more):
        """The call must raise just this class of error, with these fields in this order."""
        with self.assertRaises(ValueError) as caught:
            call(*arguments, **more)
        self.assertIs(type(caught.exception), wanted)
        self.assertEqual(list(vars(caught.exception).values()), list(told))
