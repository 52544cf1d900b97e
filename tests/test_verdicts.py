"""Tests of letbychecks.verdicts: [4.11], [4.12], [4.13]."""

import inspect
import unittest
from fractions import Fraction
from random import Random

from letbychecks.cheapest import cheapest_let, is_sole
from letbychecks.codes import Code
from letbychecks.errors import BadPrices
from letbychecks.verdicts import best_word, cheapest_words, price_gap, verdict_at
from tests.helpers import FIVE, HALF_ROW, WRONG_PRICES, Raises, corners_by_hand, digit_costs, some_codes, some_prices
from tests.helpers import sums_by_hand, words_by_hand

SEVEN = Code(7, [(0, 1, 2), (0, 3, 4), (1, 3, 5), (2, 3, 6)])


def judged_by_hand(code, prices):
    """The least cost of a word and the words that have it."""
    costs = {word: digit_costs(prices, word) for word in words_by_hand(code)}
    least = min(costs.values())
    return least, [word for word in costs if costs[word] == least]


class Words(Raises, unittest.TestCase):
    def test_chance(self):
        random = Random(421)
        several = 0
        for code in some_codes(422, 150, 8, 4):
            prices = some_prices(random, code, random.choice((0, 1, 5, 99)))
            least, words = judged_by_hand(code, prices)
            told = best_word(code, list(prices))
            self.assertEqual(told, (least, words[0]))
            self.assertIs(type(told[0]), int)
            self.assertEqual((type(told), type(told[1])), (tuple, tuple))
            self.assertEqual(list(cheapest_words(code, prices)), words)
            several += len(words) > 1
        self.assertGreater(several, 30)

    def test_zero_as_the_only_word(self):
        for prices in ((-99, -99), (0, 0), (5, -5)):
            code = Code(2, [(0,), (0, 1)])
            self.assertEqual(best_word(code, prices), (0, (0, 0)))
            self.assertEqual(list(cheapest_words(code, prices)), [(0, 0)])

    def test_first_in_ascending_order(self):
        self.assertEqual(best_word(FIVE, (0, 0, 0, 0, 0)), (0, (0, 0, 0, 0, 0)))
        self.assertEqual(best_word(FIVE, (-1, 0, 0, 0, 0)), (-1, (1, 1, 0, 0, 0)))
        self.assertEqual(list(cheapest_words(FIVE, (-1, 0, 0, 0, 0))), [(1, 1, 0, 0, 0), (1, 1, 0, 1, 1)])
        self.assertEqual(best_word(Code(10, []), (-9,) * 10), (-90, (1,) * 10))
        self.assertEqual(list(cheapest_words(FIVE, (0,) * 5)), words_by_hand(FIVE))

    def test_begun_twice(self):
        self.assertTrue(inspect.isgeneratorfunction(cheapest_words))
        words = cheapest_words(FIVE, (0,) * 5)
        self.assertEqual(next(words), next(cheapest_words(FIVE, (0,) * 5)))
        self.assertEqual(next(words), (0, 0, 0, 1, 1))
        self.assertEqual(len(list(words)), 2)

    def test_wrong_prices(self):
        for prices, place in WRONG_PRICES:
            self.fails(BadPrices, [place], best_word, FIVE, prices)
            self.fails(BadPrices, [place], verdict_at, FIVE, prices)
            self.fails(BadPrices, [place], price_gap, FIVE, prices)
            self.fails(BadPrices, [place], lambda: list(cheapest_words(FIVE, prices)))


class Verdicts(unittest.TestCase):
    def test_against_all_corners(self):
        random = Random(423)
        told = {"right": 0, "fooled": 0}
        for code in some_codes(424, 40, 3, 3) + [Code(3, [(0, 1), (0, 2), (0, 1, 2)])] * 4:
            corners = corners_by_hand(code)
            for most in (1, 9):
                prices = some_prices(random, code, most)
                gap = judged_by_hand(code, prices)[0] - min(digit_costs(prices, row) for row in corners)
                self.assertEqual(Fraction(*price_gap(code, prices)), gap)
                self.assertEqual(verdict_at(code, prices), "fooled" if gap else "right")
                told[verdict_at(code, prices)] += 1
        self.assertGreater(min(told.values()), 3)

    def test_gap_and_verdict(self):
        random = Random(425)
        for code in some_codes(426, 100, 8, 5):
            prices = some_prices(random, code)
            gap = price_gap(code, prices)
            self.assertEqual(Fraction(*gap), judged_by_hand(code, prices)[0] - Fraction(*cheapest_let(code, prices).price))
            self.assertGreaterEqual(gap[0], 0)
            self.assertEqual(verdict_at(code, list(prices)), "right" if gap == (0, 1) else "fooled")

    def test_example(self):
        """[4.13]"""
        prices = (0, 0, -1, 0, 0)
        self.assertEqual(best_word(FIVE, prices), (0, (0, 0, 0, 0, 0)))
        self.assertEqual(verdict_at(FIVE, prices), "fooled")
        self.assertEqual(price_gap(FIVE, prices), (1, 1))
        self.assertEqual(cheapest_let(FIVE, prices).row, HALF_ROW)
        self.assertTrue(is_sole(FIVE, prices))
        self.assertEqual(verdict_at(FIVE, (0, 0, 1, 0, 0)), "right")
        self.assertEqual(price_gap(FIVE, (0, 0, 1, 0, 0)), (0, 1))

    def test_gap_that_is_no_integer(self):
        full = Code(7, sums_by_hand(SEVEN))
        self.assertEqual(price_gap(full, (-1,) * 7), (2, 3))
        self.assertEqual(verdict_at(full, (-1,) * 7), "fooled")

    def test_right_ones(self):
        """[4.12]: cheapest words at a right verdict, and words that are cheapest rows."""
        random = Random(427)
        soles = 0
        for code in some_codes(428, 80, 6, 4):
            prices = some_prices(random, code, 3)
            told = cheapest_let(code, prices)
            words = list(cheapest_words(code, prices))
            if all(share in ((0, 1), (1, 1)) for share in told.row):
                self.assertIn(tuple(share[0] for share in told.row), words)
                self.assertEqual(verdict_at(code, prices), "right")
            if verdict_at(code, prices) == "right":
                self.assertTrue(all(digit_costs(prices, word) == Fraction(*told.price) for word in words))
                if is_sole(code, prices):
                    soles += 1
                    self.assertEqual(len(words), 1)
        self.assertGreater(soles, 10)

    def test_turned(self):
        random = Random(429)
        for code in some_codes(430, 60, 6, 4):
            prices = some_prices(random, code)
            word = random.choice(words_by_hand(code))
            turned = tuple(-price if digit else price for price, digit in zip(prices, word))
            self.assertEqual(price_gap(code, prices), price_gap(code, turned))
            self.assertEqual(verdict_at(code, prices), verdict_at(code, turned))

    def test_all_sum_checks_fool_no_more(self):
        random = Random(431)
        for code in some_codes(432, 40, 5, 4):
            full = Code(code.bits, sums_by_hand(code))
            prices = some_prices(random, code)
            self.assertLessEqual(Fraction(*price_gap(full, prices)), Fraction(*price_gap(code, prices)))
            self.assertEqual(verdict_at(full, prices), "right")


if __name__ == "__main__":
    unittest.main()
