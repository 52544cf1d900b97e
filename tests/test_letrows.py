"""Tests of letbychecks.letrows: [2.1], [2.2], [2.3], [2.4]."""

import unittest
from fractions import Fraction
from itertools import product
from random import Random

from letbychecks.codes import Code
from letbychecks.errors import BadLot, BadRow, NoCheck, NotLet
from letbychecks.letrows import even_rows, excess_of, is_let, let_between, let_fault, odd_lots, tight_lots, worst_lot
from letbychecks.words import row_of_word
from tests.helpers import FIVE, HALF_ROW, Raises, excess_by_hand, fault_by_hand, fractions, grid_rows, let_row_on
from tests.helpers import odd_lots_by_hand, ratio, ratios, some_codes, some_row, words_by_hand, worst_by_hand

ONE_BIT = Code(2, [(1,), (0, 1)])
TEN = Code(10, [tuple(range(10))])
WRONG_NUMBERS = (-1, 4, True, False, None, "0", 0.0, (0,))


class Raised(Raises, unittest.TestCase):
    def test_wrong_numbers(self):
        for number in WRONG_NUMBERS:
            self.fails(NoCheck, [number], even_rows, FIVE, number)
            self.fails(NoCheck, [number], lambda: list(odd_lots(FIVE, number)))
            self.fails(NoCheck, [number], excess_of, FIVE, number, None, None)
            self.fails(NoCheck, [number], worst_lot, FIVE, number, None)

    def test_wrong_lots(self):
        wrong = (None, "0", {0}, (), (0, 1), (0, 0), (2,), (0, 1, 2), (5,), (True,), (-1,), [[0]], (0.0,))
        for lot in wrong:
            self.fails(BadLot, [], excess_of, FIVE, 0, lot, None)
        self.fails(BadLot, [], excess_of, FIVE, 1, (0, 1), HALF_ROW)
        self.fails(BadLot, [], excess_of, FIVE, 1, (0, 1, 3), HALF_ROW)

    def test_wrong_rows(self):
        calls = (lambda row: excess_of(FIVE, 0, (0,), row), lambda row: worst_lot(FIVE, 1, row),
                 lambda row: let_fault(FIVE, row), lambda row: is_let(FIVE, row), lambda row: tight_lots(FIVE, row),
                 lambda row: let_between(FIVE, row, HALF_ROW), lambda row: let_between(FIVE, HALF_ROW, row))
        for call in calls:
            for row in (None, 5, (), HALF_ROW[:4], HALF_ROW + HALF_ROW, "00000"):
                self.fails(BadRow, [-1], call, row)
            for share in (0, True, [1, 2], (2, 4), (3, 2), (-1, 2), None):
                self.fails(BadRow, [3], call, HALF_ROW[:3] + (share, share))


class Lots(unittest.TestCase):
    def test_even_rows(self):
        for size in range(1, 11):
            code = Code(10, [(0,), tuple(range(10))[10 - size:]])
            told = tuple(row for row in product((0, 1), repeat=size) if sum(row) % 2 == 0)
            self.assertEqual(even_rows(code, 1), told)
        self.assertEqual(even_rows(ONE_BIT, 0), ((0,),))
        self.assertEqual(even_rows(ONE_BIT, 1), ((0, 0), (1, 1)))

    def test_odd_lots(self):
        for check in ((0,), (9,), (1, 4), (0, 3, 7), (2, 3, 5, 8), tuple(range(10))):
            code = Code(10, [(5, 6), check])
            self.assertEqual(list(odd_lots(code, 1)), odd_lots_by_hand(check))
        self.assertEqual(list(odd_lots(FIVE, 1)), [(0,), (1,), (2,), (0, 1, 2)])
        self.assertEqual(len(list(odd_lots(TEN, 0))), 512)

    def test_odd_lots_begun_twice(self):
        lots = odd_lots(FIVE, 1)
        self.assertEqual(next(lots), (0,))
        self.assertEqual(next(odd_lots(FIVE, 1)), (0,))
        self.assertEqual(next(lots), (1,))


class Excess(unittest.TestCase):
    def test_excess_and_worst(self):
        random = Random(22)
        for code in some_codes(21, 150, 6, 4):
            row = some_row(random, code.bits)
            for number, check in enumerate(code.checks):
                for lot in odd_lots_by_hand(check):
                    excess = ratio(excess_by_hand(check, lot, row))
                    self.assertEqual(excess_of(code, number, lot[::-1], list(row)), excess)
                lot, excess = worst_by_hand(check, row)
                self.assertEqual(worst_lot(code, number, list(row)), (lot, ratio(excess)))

    def test_every_tie(self):
        for size in (1, 2, 3, 4):
            code = Code(size + 1, [tuple(range(1, size + 1))])
            for row in grid_rows(size, 4):
                wide = (ratio(1), *row)
                lot, excess = worst_by_hand(code.checks[0], wide)
                self.assertEqual(worst_lot(code, 0, wide), (lot, ratio(excess)))

    def test_ten_bits(self):
        random = Random(23)
        for _ in range(20):
            row = some_row(random, 10, (1, 2, 5, 7))
            lot, excess = worst_by_hand(TEN.checks[0], row)
            self.assertEqual(worst_lot(TEN, 0, row), (lot, ratio(excess)))
        self.assertEqual(worst_lot(TEN, 0, ratios(*["1/2"] * 10)), ((0,), (-4, 1)))

    def test_below_zero(self):
        code = Code(3, ((0, 1, 2),))
        row = ratios("1/2", "1/2", "1/2")
        self.assertEqual(worst_lot(code, 0, row), ((0,), (-1, 2)))
        for lot in odd_lots(code, 0):
            self.assertEqual(excess_of(code, 0, lot, row), (-1, 2))

    def test_one_bit(self):
        self.assertEqual(worst_lot(ONE_BIT, 0, ratios("1/3", "2/5")), ((1,), (2, 5)))
        self.assertEqual(worst_lot(ONE_BIT, 0, ratios(1, 0)), ((1,), (0, 1)))

    def test_long_ratios(self):
        great = 10 ** 59
        row = ratios(Fraction(great - 1, great + 3), Fraction(3, great - 7), Fraction(great, 2 * great + 1))
        code = Code(3, [(0, 1, 2)])
        lot, excess = worst_by_hand((0, 1, 2), row)
        self.assertEqual(worst_lot(code, 0, row), (lot, ratio(excess)))


class Let(unittest.TestCase):
    def test_faults(self):
        random = Random(24)
        lets = 0
        for code in some_codes(25, 300, 6, 3):
            row = some_row(random, code.bits)
            if random.random() < 0.5 and code.checks:
                row = let_row_on(random, code.bits, code.checks[0])
            fault = fault_by_hand(code, row)
            lets += fault is None
            self.assertEqual(let_fault(code, list(row)), fault)
            self.assertIs(is_let(code, row), fault is None)
        self.assertTrue(100 < lets < 250)

    def test_no_checks_and_one_bit(self):
        code = Code(3, [])
        for row in grid_rows(3, 2):
            self.assertIsNone(let_fault(code, row))
            self.assertEqual(tight_lots(code, row), ())
        self.assertIsNone(let_fault(Code(2, [(1,)]), ratios("1/2", 0)))
        self.assertEqual(let_fault(Code(2, [(1,)]), ratios("1/2", "1/9")), (0, (1,)))

    def test_first_check(self):
        code = Code(3, [(0, 1), (1, 2), (1, 2), (2,)])
        self.assertEqual(let_fault(code, ratios(1, 1, "1/2")), (1, (1,)))
        self.assertEqual(let_fault(code, ratios(1, 1, 1)), (3, (2,)))

    def test_whole_let_rows_are_the_words(self):
        for code in some_codes(26, 60, 6, 4):
            whole = [word for word in product((0, 1), repeat=code.bits) if is_let(code, row_of_word(word))]
            self.assertEqual(whole, words_by_hand(code))

    def test_example(self):
        self.assertIsNone(let_fault(FIVE, HALF_ROW))
        self.assertIs(is_let(FIVE, HALF_ROW), True)
        self.assertIs(is_let(FIVE, ratios(0, 0, 1, 0, 0)), False)

    def test_tight(self):
        random = Random(27)
        for code in some_codes(28, 150, 6, 4):
            row = some_row(random, code.bits, (1, 2, 3))
            told = tuple((number, lot) for number, check in enumerate(code.checks)
                         for lot in odd_lots_by_hand(check) if excess_by_hand(check, lot, row) == 0)
            self.assertEqual(tight_lots(code, list(row)), told)

    def test_tight_at_a_row_that_is_not_let(self):
        code = Code(3, [(0, 1), (1, 2), (1, 2)])
        row = ratios(1, 0, 0)
        self.assertIs(is_let(code, row), False)
        self.assertEqual(tight_lots(code, row), ((1, (1,)), (1, (2,)), (2, (1,)), (2, (2,))))


class Between(Raises, unittest.TestCase):
    def between_by_hand(self, code, row, other):
        """The least of 1 and the places where a lot's excess becomes 0."""
        best = Fraction(1)
        for check in code.checks:
            for lot in odd_lots_by_hand(check):
                low, high = excess_by_hand(check, lot, row), excess_by_hand(check, lot, other)
                if high > 0:
                    best = min(best, -low / (high - low))
        return ratio(best)

    def test_between(self):
        random = Random(29)
        seen = {}
        for code in some_codes(30, 400, 6, 4):
            row = row_of_word(random.choice(words_by_hand(code)))
            if random.random() < 0.5:
                mixed = let_row_on(random, code.bits, code.checks[0] if code.checks else (0,))
                row = mixed if is_let(code, mixed) else row
            other = some_row(random, code.bits)
            told = let_between(code, list(row), list(other))
            self.assertEqual(told, self.between_by_hand(code, row, other))
            seen[told] = True
            there = [x + Fraction(*told) * (y - x) for x, y in zip(fractions(row), fractions(other))]
            self.assertIsNone(let_fault(code, ratios(*there)))
        self.assertIn((0, 1), seen)
        self.assertIn((1, 1), seen)
        self.assertGreater(len(seen), 8)

    def test_ends(self):
        code = Code(2, [(0, 1)])
        self.assertEqual(let_between(code, ratios(0, 0), ratios(1, 1)), (1, 1))
        self.assertEqual(let_between(code, ratios(0, 0), ratios(1, 0)), (0, 1))
        self.assertEqual(let_between(code, ratios("1/2", "1/2"), ratios("1/2", "1/2")), (1, 1))
        code = Code(3, [(0, 1, 2)])
        self.assertEqual(let_between(code, ratios("1/2", "1/2", "1/2"), ratios(1, 1, 1)), (1, 3))
        self.assertEqual(let_between(Code(2, []), ratios(0, 0), ratios(1, "1/7")), (1, 1))

    def test_several_checks_bar(self):
        code = Code(3, [(0, 1, 2), (0, 1, 2), (1,)])
        self.assertEqual(let_between(code, ratios("1/2", 0, "1/2"), ratios("1/2", "1/2", "1/2")), (0, 1))

    def test_errors_in_turn(self):
        bad = ratios(1, 0, 0, 0, 0)
        self.fails(NotLet, [0, (0,)], let_between, FIVE, bad, HALF_ROW)
        self.fails(NotLet, [1, (2,)], let_between, FIVE, ratios(0, 0, 1, 1, 0), bad)
        self.fails(BadRow, [4], let_between, FIVE, bad, HALF_ROW[:4] + (None,))
        self.fails(BadRow, [-1], let_between, FIVE, bad, None)
        self.fails(BadRow, [0], let_between, FIVE, [1] * 5, None)
        self.assertEqual(let_between(FIVE, HALF_ROW, bad), (0, 1))


if __name__ == "__main__":
    unittest.main()
