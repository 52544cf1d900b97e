"""Tests of letbychecks.words: [0.7], [1.4], [1.5], [1.6], [1.7]."""

import unittest
from itertools import permutations
from random import Random

from letbychecks.codes import Code
from letbychecks.errors import BadLot, BadOrder, BadWord, NoCheck, TooMany, UnlikeBits
from letbychecks.words import alike_codes, cost_of, count_words, is_sum_check, is_word, lot_word, renamed_code
from letbychecks.words import renamed_things, row_of_word, sum_checks, sum_of_checks, with_sums, word_basis
from letbychecks.words import word_cost, word_fault, word_lot, word_of_row, words_of
from tests.helpers import FIVE, ODD_THINGS, Raises, lots_of, ratios, some_codes, sums_by_hand, words_by_hand

NO_CHECKS = Code(3, [])
ONLY_ZERO = Code(3, [(0,), (0, 1), (2, 0, 1)])
SIX_CHECKS = Code(10, [(bit, bit + 1) for bit in range(6)])
SEVEN_CHECKS = Code(10, [(bit, bit + 1) for bit in range(7)])
MANY_CHECKS = Code(7, [lot for lot in lots_of(range(7), (1, 2, 3))])
CODES = [FIVE, NO_CHECKS, ONLY_ZERO, SIX_CHECKS, SEVEN_CHECKS, MANY_CHECKS, Code(1, []), Code(1, [[0]]),
         Code(10, []), Code(4, [(0, 1)] * 5), Code(10, [[9]])] + some_codes(14, 60, 8, 8)


class Words(Raises, unittest.TestCase):
    def test_many_checks(self):
        self.assertEqual(len(MANY_CHECKS), 63)

    def test_words(self):
        for code in CODES:
            words = list(words_of(code))
            self.assertEqual(words, words_by_hand(code))
            self.assertEqual({type(word) for word in words}, {tuple})
            self.assertEqual(count_words(code), len(words))

    def test_example(self):
        self.assertEqual(list(words_of(FIVE)), [(0, 0, 0, 0, 0), (0, 0, 0, 1, 1), (1, 1, 0, 0, 0), (1, 1, 0, 1, 1)])
        self.assertEqual(word_basis(FIVE), ((1, 1, 0, 0, 0), (0, 0, 0, 1, 1)))
        self.assertEqual(len(sum_checks(FIVE)), 7)
        self.assertEqual(sum_checks(FIVE)[:3], ((2,), (0, 1), (3, 4)))

    def test_begun_twice(self):
        first, second = words_of(FIVE), words_of(FIVE)
        self.assertEqual([next(first), next(first), next(second)], [(0,) * 5, (0, 0, 0, 1, 1), (0,) * 5])
        self.assertEqual(len(list(first)), 2)
        self.assertEqual(len(list(second)), 3)
        self.assertEqual(len(list(words_of(FIVE))), 4)

    def test_basis(self):
        for code in CODES:
            basis = word_basis(code)
            self.assertIs(type(basis), tuple)
            self.assertEqual(2 ** len(basis), count_words(code))
            firsts = [word.index(1) for word in basis]
            self.assertEqual(firsts, sorted(set(firsts)))
            for first in firsts:
                self.assertEqual(sum(word[first] for word in basis), 1)
            for word in basis:
                self.assertIn(word, words_by_hand(code))
        self.assertEqual(word_basis(ONLY_ZERO), ())
        self.assertEqual(word_basis(NO_CHECKS), ((1, 0, 0), (0, 1, 0), (0, 0, 1)))

    def test_is_word_and_fault(self):
        for code in CODES[:8]:
            words = words_by_hand(code)
            for word in words_by_hand(Code(code.bits, [])):
                self.assertIs(is_word(code, word), word in words)
                self.assertIs(is_word(code, list(word)), word in words)
                odd = [number for number, check in enumerate(code.checks) if sum(word[bit] for bit in check) % 2]
                self.assertEqual(word_fault(code, list(word)), odd[0] if odd else None)

    def test_is_word_of_any_thing(self):
        looped = []
        looped.append(looped)
        wrong = (*ODD_THINGS, looped, (0,) * 4, (0,) * 6, (False,) * 5, (0, 0, 0, 0, 2), (0.0,) * 5, "00000",
                 (True, True, 0, 0, 0), FIVE, is_word)
        for thing in wrong:
            self.assertIs(is_word(FIVE, thing), False)
            self.fails(BadWord, [-1], word_fault, FIVE, thing)


class Costs(Raises, unittest.TestCase):
    def test_lots(self):
        self.assertEqual(word_lot((0, 1, 0, 1, 1)), (1, 3, 4))
        self.assertEqual(word_lot([0, 0]), ())
        self.assertEqual(lot_word(FIVE, [4, 0]), (1, 0, 0, 0, 1))
        self.assertEqual(lot_word(FIVE, ()), (0,) * 5)
        for lot in lots_of(range(5)):
            self.assertEqual(word_lot(lot_word(FIVE, lot)), lot)
        for lot in (None, (5,), (0, 0), (True,), "01", (-1,)):
            self.fails(BadLot, [], lot_word, FIVE, lot)

    def test_rows(self):
        self.assertEqual(row_of_word((0, 1, 1)), ((0, 1), (1, 1), (1, 1)))
        self.assertEqual(row_of_word([1]), ((1, 1),))
        self.assertEqual(word_of_row([(0, 1), (1, 1), (1, 1)]), (0, 1, 1))
        self.assertEqual(word_of_row(((1, 1),)), (1,))
        for row in (ratios(0, "1/2"), ratios("1/3"), ratios(1, 1, "2/3", 0)):
            self.assertIsNone(word_of_row(row))

    def test_costs(self):
        great = 10 ** 50
        self.assertEqual(cost_of((1, -2, 3), ratios("1/2", "1/3", "1/6")), (1, 3))
        self.assertEqual(cost_of([great, -great, 0], ratios("1/2", "1/3", 1)), (great // 2, 3))
        self.assertEqual(cost_of((5, 7), ratios(0, 0)), (0, 1))
        self.assertEqual(cost_of((-5, 7), ratios(1, 1)), (2, 1))
        self.assertEqual(word_cost((1, -2, 3), (1, 1, 0)), -1)
        self.assertEqual(word_cost([great, 5, -1], [1, 0, 1]), great - 1)
        self.assertEqual(word_cost((1, 2), (0, 0)), 0)
        self.assertIs(type(word_cost((1, 2), (0, 1))), int)

    def test_costs_agree(self):
        random = Random(15)
        for _ in range(50):
            prices = [random.randint(-1000, 1000) for _ in range(6)]
            word = [random.randint(0, 1) for _ in range(6)]
            self.assertEqual(cost_of(prices, row_of_word(word)), (word_cost(prices, word), 1))


class Sums(Raises, unittest.TestCase):
    def test_sum_checks(self):
        for code in CODES:
            sums = sums_by_hand(code)
            if len(sums) <= 63:
                self.assertEqual(sum_checks(code), sums)
                self.assertEqual(with_sums(code), Code(code.bits, sums))
                self.assertEqual(words_by_hand(with_sums(code)), words_by_hand(code))
            else:
                self.fails(TooMany, [63], sum_checks, code)
                self.fails(TooMany, [63], with_sums, code)

    def test_edges(self):
        self.assertEqual(len(sum_checks(SIX_CHECKS)), 63)
        self.fails(TooMany, [63], sum_checks, SEVEN_CHECKS)
        self.fails(TooMany, [63], with_sums, MANY_CHECKS)
        self.assertEqual(sum_checks(NO_CHECKS), ())
        self.assertEqual(with_sums(NO_CHECKS), NO_CHECKS)
        self.assertEqual(sum_checks(Code(4, [(0, 1)] * 5)), ((0, 1),))

    def test_is_sum_check(self):
        for code in (*CODES[:7], *CODES[11:20]):
            sums = set(sums_by_hand(code))
            for lot in lots_of(range(code.bits)):
                self.assertIs(is_sum_check(code, lot[::-1]), lot in sums)
        for lot in (None, (5,), (0, 0), (True,), "01", [[0]]):
            self.fails(BadLot, [], is_sum_check, FIVE, lot)
        self.assertIs(is_sum_check(SEVEN_CHECKS, [7, 0]), True)
        self.assertIs(is_sum_check(SEVEN_CHECKS, (0, 8)), False)

    def test_sum_of_checks(self):
        self.assertEqual(sum_of_checks(FIVE, [0, 1]), (2,))
        self.assertEqual(sum_of_checks(FIVE, (1, 2)), (0, 1, 3, 4))
        self.assertEqual(sum_of_checks(FIVE, ()), ())
        self.assertEqual(sum_of_checks(FIVE, [2, 2]), ())
        self.assertEqual(sum_of_checks(FIVE, [2, 0, 2, 2]), (0, 1, 2, 3, 4))
        self.assertEqual(sum_of_checks(SEVEN_CHECKS, list(range(7))), (0, 7))
        self.assertEqual(sum_of_checks(Code(4, [(0, 1)] * 2), (0, 1)), ())
        for wrong in (4, -1, True, None, "0", 0.0):
            self.fails(NoCheck, [wrong], sum_of_checks, FIVE, [0, wrong, 99])
        self.fails(NoCheck, [0], sum_of_checks, NO_CHECKS, [0])


class Renamed(Raises, unittest.TestCase):
    def test_alike(self):
        codes = some_codes(17, 40, 5, 4)
        for one in codes:
            for other in codes:
                if one.bits != other.bits:
                    self.fails(UnlikeBits, [], alike_codes, one, other)
                else:
                    unlike = sorted(set(words_by_hand(one)) ^ set(words_by_hand(other)))
                    self.assertEqual(alike_codes(one, other), unlike[0] if unlike else None)
        self.assertIsNone(alike_codes(FIVE, with_sums(FIVE)))
        self.assertEqual(alike_codes(Code(2, []), Code(2, [(0, 1)])), (0, 1))
        self.assertEqual(alike_codes(Code(2, [(0,)]), Code(2, [(0, 1)])), (0, 1))
        self.assertEqual(alike_codes(Code(2, [(1,)]), Code(2, [(0, 1)])), (1, 0))

    def test_renamed_code(self):
        code = Code(3, [(0, 1), (2,), (0, 1)])
        self.assertEqual(renamed_code(code, (2, 0, 1)), Code(3, [(1, 2), (0,), (1, 2)]))
        for code in some_codes(19, 10, 4, 3):
            for order in permutations(range(code.bits)):
                renamed = renamed_code(code, list(order))
                self.assertEqual(sorted(renamed_things(word, order) for word in words_by_hand(code)),
                                 words_by_hand(renamed))
                self.assertEqual(len(renamed), len(code))
                for new, old in zip(renamed.checks, code.checks):
                    self.assertEqual({order[bit] for bit in new}, set(old))

    def test_renamed_things(self):
        self.assertEqual(renamed_things("a b c".split(), (2, 0, 1)), ("c", "a", "b"))
        self.assertEqual(renamed_things((), ()), ())
        self.assertEqual(renamed_things((None,), [0]), (None,))

    def test_orders(self):
        for order in (None, 3, "012", (0, 1), (0, 1, 1), (0, 1, 3), (-1, 0, 1), (0, True, 2), (0, 1, 2, 3), {0, 1, 2},
                      (0, 1, None), [[0], 1, 2], (0, 1, 2.0), ()):
            self.fails(BadOrder, [], renamed_code, NO_CHECKS, order)
            self.fails(BadOrder, [], renamed_things, (7, 8, 9), order)
        self.fails(BadOrder, [], renamed_things, (), (0,))


if __name__ == "__main__":
    unittest.main()
