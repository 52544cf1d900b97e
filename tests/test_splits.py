"""Tests of letbychecks.splits: [2.9], [2.10], [2.11]."""

import unittest
from fractions import Fraction
from itertools import combinations_with_replacement, product
from random import Random

from letbychecks.codes import Code
from letbychecks.errors import BadLot, BadRow, BadWord, NoCheck, TooMany
from letbychecks.letrows import is_let
from letbychecks.splits import odd_range, split_code, split_range, split_word
from tests.helpers import FIVE, HALF_ROW, Raises, excess_by_hand, fractions, grid_rows, let_row_on, lots_of
from tests.helpers import odd_lots_by_hand, ratio, ratios, some_codes, some_row, words_by_hand

THREE = Code(3, [(0, 1, 2)])
HALVES = ratios("1/2", "1/2", "1/2")
TEN = Code(10, [tuple(range(10)), (0, 1)])
WIDE = Code(3, [(0, 1)] * 63)
WRONG_PARTS = ((), [], (0, 1, 2), (3,), (0, 3), (0, 0), (True,), None, "0", 0, {0}, (5,), (-1,), [[0]], (0, 1, 2, 3))


def range_by_hand(lot, row):
    """The couple as [2.9] tells it."""
    shares = fractions(row)
    low = max([0] + [excess_by_hand(lot, part, row) for part in odd_lots_by_hand(lot)])
    high = min([1] + [sum(1 - shares[bit] if bit in part else shares[bit] for bit in lot)
                      for part in lots_of(lot, range(0, len(lot) + 1, 2))])
    return ratio(low), ratio(high)


class Ranges(Raises, unittest.TestCase):
    def test_ranges(self):
        random = Random(51)
        for _ in range(150):
            bits = random.randint(1, 6)
            code = Code(bits, [])
            row = some_row(random, bits)
            lot = tuple(random.sample(range(bits), random.randint(1, bits)))
            told = odd_range(code, lot, list(row))
            self.assertEqual(told, range_by_hand(tuple(sorted(lot)), row))
            self.assertIs(type(told), tuple)

    def test_what_mixtures_take(self):
        """The least and the greatest odd weight, told by all ways to take so many rows of digits."""
        for bits, bottom in ((2, 3), (3, 2)):
            taken = {}
            many = 2 * bottom
            for rows in combinations_with_replacement(list(product((0, 1), repeat=bits)), many):
                row = ratios(*[Fraction(sum(column), many) for column in zip(*rows)])
                taken.setdefault(row, []).append(Fraction(sum(sum(digits) % 2 for digits in rows), many))
            for row in grid_rows(bits, bottom):
                low, high = odd_range(Code(bits, []), list(range(bits)), row)
                self.assertEqual((low, high), (ratio(min(taken[row])), ratio(max(taken[row]))))

    def test_one_bit_and_all(self):
        for share in ratios(0, "1/3", "2/3", 1):
            row = (share,) + ratios("1/2") * 9
            self.assertEqual(odd_range(TEN, [0], row), (share, share))
        self.assertEqual(odd_range(TEN, tuple(range(10)), ratios(*["1/2"] * 10)), ((0, 1), (1, 1)))
        self.assertEqual(odd_range(TEN, tuple(range(10)), ratios(*[1] * 9, 0)), ((1, 1), (1, 1)))
        self.assertEqual(odd_range(TEN, tuple(range(10)), ratios(*[1] * 10)), ((0, 1), (0, 1)))

    def test_let_exactly_if_low_is_zero(self):
        for row in grid_rows(3, 4):
            low, _ = odd_range(THREE, (2, 0, 1), row)
            self.assertEqual(low == (0, 1), is_let(THREE, row))

    def test_example(self):
        self.assertEqual(odd_range(THREE, (0,), HALVES), ((1, 2), (1, 2)))
        self.assertEqual(odd_range(THREE, (1, 2), HALVES), ((0, 1), (1, 1)))
        self.assertEqual(split_range(THREE, 0, (0,), HALVES), ((1, 2), (1, 2)))

    def test_errors(self):
        for lot in ((), [], None, "0", (3,), (0, 0), (True,), (-1,), [[0]], {0}):
            self.fails(BadLot, [], odd_range, THREE, lot, None)
        self.fails(BadRow, [-1], odd_range, THREE, (0,), None)
        self.fails(BadRow, [1], odd_range, THREE, (0,), ((1, 2), 1, 2))


class Parted(Raises, unittest.TestCase):
    def test_codes(self):
        self.assertEqual(split_code(FIVE, 1, (2, 0)), Code(6, [(0, 1), (0, 2, 5), (1, 5), (2, 3, 4), (3, 4)]))
        self.assertEqual(split_code(FIVE, 0, [1]), Code(6, [(1, 5), (0, 5), (0, 1, 2), (2, 3, 4), (3, 4)]))
        self.assertEqual(split_code(FIVE, 3, [4]), Code(6, [(0, 1), (0, 1, 2), (2, 3, 4), (4, 5), (3, 5)]))
        nine = Code(9, [tuple(range(9))])
        self.assertEqual(split_code(nine, 0, list(range(8))), Code(10, [(*range(8), 9), (8, 9)]))
        self.assertEqual(len(split_code(Code(3, [(0, 1)] * 62), 5, (0,))), 63)

    def test_words(self):
        random = Random(52)
        for code in some_codes(53, 80, 6, 4):
            for number, check in enumerate(code.checks):
                if len(check) > 1:
                    lot = random.sample(check, random.randint(1, len(check) - 1))
                    words = [split_word(code, number, lot, list(word)) for word in words_by_hand(code)]
                    self.assertEqual(words, words_by_hand(split_code(code, number, lot)))
                    self.assertEqual({type(word) for word in words}, {tuple})

    def test_words_of_great_codes(self):
        self.assertEqual(split_word(TEN, 0, (0, 5), (1, 1) + (0,) * 8), (1, 1) + (0,) * 8 + (1,))
        self.assertEqual(split_word(WIDE, 62, [1], [1, 1, 0]), (1, 1, 0, 1))
        self.assertEqual(split_word(WIDE, 62, [1], [0, 0, 1]), (0, 0, 1, 0))

    def test_too_many(self):
        self.fails(TooMany, [9], split_code, TEN, 0, (0,))
        self.fails(TooMany, [62], split_code, WIDE, 0, (0,))
        self.fails(TooMany, [9], split_code, Code(10, [(0, 1)] * 63), 0, (0,))

    def test_wrong_numbers_and_lots(self):
        calls = (split_code, lambda *given: split_word(*given, None), lambda *given: split_range(*given, None))
        for call in calls:
            for number in (-1, 1, True, None, "0"):
                self.fails(NoCheck, [number], call, Code(4, [(0, 1, 2)]), number, None)
            for lot in WRONG_PARTS:
                self.fails(BadLot, [], call, Code(4, [(0, 1, 2)]), 0, lot)
        self.fails(BadLot, [], split_code, TEN, 1, (2,))
        self.fails(BadLot, [], split_code, WIDE, 1, ())

    def test_wrong_words_and_rows(self):
        self.fails(BadWord, [-1], split_word, FIVE, 0, (0,), (0, 0, 0, 0, True))
        self.fails(BadWord, [-1], split_word, FIVE, 0, (0,), None)
        self.fails(BadWord, [2], split_word, FIVE, 0, (0,), (1, 1, 0, 1, 0))
        self.fails(BadRow, [-1], split_range, FIVE, 0, (0,), None)
        self.fails(BadRow, [4], split_range, FIVE, 0, (0,), HALF_ROW[:4] + (1,))


class SplitRanges(unittest.TestCase):
    def test_ranges(self):
        random = Random(54)
        nones = 0
        for code in some_codes(55, 200, 6, 3):
            for number, check in enumerate(code.checks):
                if len(check) > 1:
                    row = random.choice((some_row(random, code.bits), let_row_on(random, code.bits, check)))
                    lot = random.sample(check, random.randint(1, len(check) - 1))
                    told = split_range(code, number, lot, list(row))
                    alone = Code(code.bits, [check])
                    self.assertEqual(told is not None, is_let(alone, row))
                    nones += told is None
                    if told is not None:
                        self.judged(alone, lot, row, told)
        self.assertGreater(nones, 20)

    def judged(self, alone, lot, row, told):
        """The new share is let exactly from low to high."""
        low, high = [Fraction(*end) for end in told]
        parted = split_code(alone, 0, lot)
        little = Fraction(1, 1000)
        for share in (0, 1, low, high, (low + high) / 2, low - little, high + little):
            if 0 <= share <= 1:
                self.assertEqual(is_let(parted, (*row, ratio(share))), low <= share <= high)

    def test_great_codes(self):
        row = ratios(*["1/2"] * 10)
        self.assertEqual(split_range(TEN, 0, (0, 1), row), ((0, 1), (1, 1)))
        self.assertEqual(split_range(TEN, 1, (0,), row), ((1, 2), (1, 2)))
        self.assertIsNone(split_range(WIDE, 62, (1,), ratios(1, 0, 0)))


if __name__ == "__main__":
    unittest.main()
