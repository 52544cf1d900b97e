"""Tests of letbychecks.smallcodes: [9.1], [9.3], [9.4]."""

import unittest
from itertools import combinations, permutations
from random import Random

from letbychecks.codes import Code
from letbychecks.errors import NoSmall
from letbychecks.smallcodes import echelon_code, same_up_to_order, small_code
from letbychecks.words import renamed_code
from tests.helpers import FIVE, Raises, lots_of, some_code, some_codes, sums_by_hand, words_by_hand

BITS = {"seven": 7, "five": 10, "ten": 10}
CHECKS = {"seven": "012 034 135 236", "five": "014 025 036 127 138 239", "ten": "0569 1567 2678 3789 4589"}


def by_signs(text):
    """The lots that are written with a sign for each bit."""
    return tuple(tuple(int(sign) for sign in part) for part in text.split())


def span(vectors, many):
    """The set of all sums of rows of digits."""
    found = {(0,) * many}
    for vector in vectors:
        found |= {tuple(one ^ other for one, other in zip(vector, old)) for old in found}
    return found


def digits_of(lot, many):
    """The row of digits that is 1 just on the lot."""
    return tuple(int(bit in lot) for bit in range(many))


def same_words_otherwise(random, code, many=None):
    """A code of the same words with checks that are sums by chance, enough to give all sum checks."""
    sums = list(sums_by_hand(code))
    checks = []
    while span([digits_of(lot, code.bits) for lot in checks], code.bits) != span(
            [digits_of(lot, code.bits) for lot in sums], code.bits):
        checks.append(random.choice(sums))
    random.shuffle(checks)
    return Code(code.bits, checks)


class Echelon(unittest.TestCase):
    def test_as_the_point_tells(self):
        for code in some_codes(911, 150, 8, 7) + some_codes(912, 30, 10, 9) + [FIVE, Code(1, []), Code(1, [(0,)])]:
            made = echelon_code(code)
            self.assertIs(type(made), Code)
            self.assertEqual(made.bits, code.bits)
            self.assertEqual(words_by_hand(made), words_by_hand(code))
            self.assertEqual(1 << code.bits - len(made), len(words_by_hand(code)))
            least = [min(check) for check in made.checks]
            self.assertEqual(least, sorted(set(least)))
            for bit in least:
                self.assertEqual(sum(bit in check for check in made.checks), 1)

    def test_equal_exactly_for_the_same_words(self):
        random = Random(913)
        told = {True: 0, False: 0}
        for bits in (2, 3, 4):
            codes = [code for code in (some_code(random, bits, 4) for _ in range(60)) if code.bits == bits]
            for one, other in combinations(codes, 2):
                same = words_by_hand(one) == words_by_hand(other)
                self.assertEqual(echelon_code(one) == echelon_code(other), same)
                told[same] += 1
        self.assertGreater(min(told.values()), 100)

    def test_unlike_checks_in_any_order(self):
        random = Random(914)
        for code in some_codes(915, 60, 10, 5):
            other = same_words_otherwise(random, code)
            self.assertEqual(echelon_code(other), echelon_code(code))
            self.assertEqual(echelon_code(echelon_code(code)), echelon_code(code))

    def test_plain_ones(self):
        self.assertEqual(echelon_code(FIVE).checks, ((0, 1), (2,), (3, 4)))
        self.assertEqual(echelon_code(Code(4, [])), Code(4, []))
        self.assertEqual(echelon_code(Code(3, [(0, 1)] * 63)), Code(3, [(0, 1)]))
        self.assertEqual(echelon_code(Code(3, [(1, 2), (0, 1), (0, 2)])).checks, ((0, 2), (1, 2)))
        self.assertEqual(echelon_code(Code(4, [(0, 1, 2, 3), (0, 1, 3)])).checks, ((0, 1, 3), (2,)))
        self.assertEqual(echelon_code(Code(2, [(0, 1), (1,)])).checks, ((0,), (1,)))
        many = Code(10, [lot for lot in lots_of(range(10), (1,))])
        self.assertEqual(echelon_code(Code(10, [lot[:1] + (9,) for lot in lots_of(range(9), (1,))] + [(9,)])), many)


class SameUpToOrder(unittest.TestCase):
    def judged(self, one, other):
        """A right order is found; it is returned."""
        order = same_up_to_order(one, other)
        self.assertIs(type(order), tuple)
        self.assertEqual(sorted(order), list(range(one.bits)))
        self.assertEqual(words_by_hand(renamed_code(one, order)), words_by_hand(other))
        return order

    def test_found_for_one_to_ten_bits(self):
        random = Random(916)
        for bits in range(1, 11):
            for many in (0, 1, bits // 2, bits - 1, bits + 1):
                checks = [random.sample(range(bits), random.randint(1, bits)) for _ in range(many)]
                code = Code(bits, checks)
                order = random.sample(range(bits), bits)
                other = echelon_code(renamed_code(code, order))
                self.judged(code, other)
                self.judged(other, code)
                self.judged(code, code)

    def test_none_exactly_if_no_order_fits(self):
        random = Random(917)
        told = {True: 0, False: 0}
        for _ in range(400):
            bits = random.randint(1, 5)
            one, other = [Code(bits, [random.sample(range(bits), random.randint(1, bits))
                                      for _ in range(random.randint(0, 3))]) for _ in range(2)]
            words = set(words_by_hand(other))
            fits = any({tuple(word[bit] for bit in order) for word in words_by_hand(one)} == words
                       for order in permutations(range(bits)))
            told[fits] += 1
            if fits:
                self.judged(one, other)
            else:
                self.assertIsNone(same_up_to_order(one, other))
        self.assertGreater(min(told.values()), 50)

    def test_unlike_bits(self):
        self.assertIsNone(same_up_to_order(Code(3, []), Code(4, [])))
        self.assertIsNone(same_up_to_order(Code(3, [(0,)]), Code(2, [])))
        self.assertIsNone(same_up_to_order(small_code("seven"), small_code("ten")))

    def test_unlike_weights(self):
        self.assertIsNone(same_up_to_order(Code(10, [(0, 1, 2)]), Code(10, [(0, 1, 2, 3)])))
        self.assertIsNone(same_up_to_order(Code(10, [(0, 1)]), Code(10, [(0, 1), (2, 3)])))
        self.assertIsNone(same_up_to_order(small_code("five"), Code(10, [(bit, 9) for bit in range(6)])))
        self.assertIsNone(same_up_to_order(Code(4, [(0,), (1,)]), Code(4, [(0, 1), (2, 3)])))

    def test_words_of_the_one_as_many_as_sums_of_the_other(self):
        one = Code(10, [(0, 1, 2), (1, 2, 3), (4, 5, 6), (6, 7, 8)])
        other = Code(10, [(0, 1, 2), (1, 2, 3), (4, 5, 6), (6, 7, 8), (8, 9), (0, 9)])
        self.assertIsNone(same_up_to_order(one, other))
        self.assertIsNone(same_up_to_order(other, one))

    def test_alike_weights_but_no_order(self):
        """Both have words of the weights 0, 2, 2, 2, 4, 4, 4, 6: three couples, or 234 alike and 0145 even."""
        couples = ((0, 1), (2, 5), (3, 4))
        others = ((0, 1, 4, 5), (2, 4), (3, 4))
        one, other = Code(6, couples), Code(6, others)
        self.assertEqual(sorted(map(sum, words_by_hand(one))), sorted(map(sum, words_by_hand(other))))
        words = set(words_by_hand(other))
        for order in permutations(range(6)):
            self.assertNotEqual({tuple(word[bit] for bit in order) for word in words_by_hand(one)}, words)
        for more in ((), ((6,), (7,), (8,), (9,)), ((6, 7, 8, 9),), ((6, 7), (8, 9), (6, 8)), ((6, 7), (7, 8))):
            for bits in (6,) if not more else (10,):
                self.assertIsNone(same_up_to_order(Code(bits, couples + more), Code(bits, others + more)))
                self.assertIsNone(same_up_to_order(Code(bits, others + more), Code(bits, couples + more)))
        self.assertIsNone(same_up_to_order(Code(10, couples), Code(10, others)))

    def test_the_small_codes(self):
        random = Random(919)
        for which, bits in BITS.items():
            for _ in range(5):
                code = renamed_code(small_code(which), random.sample(range(bits), bits))
                self.judged(small_code(which), code)
                self.judged(echelon_code(code), small_code(which))
        self.assertIsNone(same_up_to_order(small_code("five"), small_code("ten")))

    def test_seven_is_the_only_code_like_that(self):
        random = Random(920)
        found = 0
        while found < 5:
            code = Code(7, [random.sample(range(7), random.randint(1, 5)) for _ in range(4)])
            if sorted(map(sum, words_by_hand(code))) == [0] + [4] * 7:
                self.judged(code, small_code("seven"))
                found += 1


class SmallCodes(Raises, unittest.TestCase):
    def test_checks(self):
        for which in BITS:
            self.assertEqual(small_code(which).bits, BITS[which])
            self.assertEqual(small_code(which).checks, by_signs(CHECKS[which]))
            self.assertIs(type(small_code(which)), Code)

    def test_words(self):
        weights = {which: sorted(map(sum, words_by_hand(small_code(which)))) for which in BITS}
        self.assertEqual(weights["seven"], [0] + [4] * 7)
        self.assertEqual(weights["ten"], [0] + [4] * 15 + [6] * 15 + [10])
        ties = list(combinations(range(5), 2))
        cuts = {tuple(int((low in side) != (high in side)) for low, high in ties) for side in lots_of(range(5))}
        self.assertEqual(len(cuts), 16)
        # The order of the bits is another one: 0 to 3 are the ties of one post, then come those of the others.
        self.assertEqual(set(words_by_hand(small_code("five"))), cuts)

    def test_other_things(self):
        for thing in (None, "", "Seven", "seven ", "eight", 7, 10, True, b"seven", ("seven",), ["seven"], {"seven"},
                      {"seven": 1}, 7.0, [], {}):
            self.fails(NoSmall, [thing], small_code, thing)
        thing = object()
        with self.assertRaises(NoSmall) as caught:
            small_code(thing)
        self.assertIs(caught.exception.which, thing)


if __name__ == "__main__":
    unittest.main()
