"""Tests of letbychecks.turned: [5.7]."""

import unittest
from fractions import Fraction
from random import Random

from letbychecks.cheapest import cheapest_let, is_sole
from letbychecks.codes import Code
from letbychecks.errors import BadPrices, BadRow, BadWord
from letbychecks.letrows import is_let
from letbychecks.turned import rival_row, turned_prices, turned_row
from tests.helpers import FIVE, HALF_ROW, WRONG_PRICES, Raises, digit_costs, fault_by_hand, fractions, ratios
from tests.helpers import some_codes, some_prices, some_row, words_by_hand

RING = Code(3, [(0, 1), (1, 2), (0, 2)])
ZEROS = (0,) * 5
WRONG_WORDS = ((None, -1), ((0,) * 4, -1), ((0, 0, 0, 0, True), -1), ((1, 0, 0, 0, 0), 0), ((0, 0, 0, 1, 0), 2))


class Turned(Raises, unittest.TestCase):
    def test_chance(self):
        random = Random(531)
        for code in some_codes(532, 100, 7, 4):
            prices, row = some_prices(random, code, 99), some_row(random, code.bits)
            word = random.choice(words_by_hand(code))
            turned = turned_row(code, list(row), list(word))
            self.assertEqual(turned, ratios(*[1 - share if digit else share
                                              for share, digit in zip(fractions(row), word)]))
            at = turned_prices(code, list(prices), list(word))
            self.assertEqual(at, tuple(-price if digit else price for price, digit in zip(prices, word)))
            self.assertEqual((type(turned), type(at)), (tuple, tuple))
            self.assertEqual(turned_row(code, turned, word), row)
            self.assertEqual(turned_prices(code, at, word), prices)
            self.assertEqual(is_let(code, turned), is_let(code, row))
            self.assertEqual(digit_costs(at, turned), digit_costs(prices, row) - digit_costs(prices, word))

    def test_words_to_words(self):
        for word in words_by_hand(FIVE):
            told = [turned_row(FIVE, ratios(*other), word) for other in words_by_hand(FIVE)]
            self.assertEqual(sorted(told), [ratios(*other) for other in words_by_hand(FIVE)])
        self.assertEqual(turned_row(FIVE, HALF_ROW, (1, 1, 0, 1, 1)), HALF_ROW)
        self.assertEqual(turned_prices(FIVE, (99, -99, 5, 0, 1), (1, 1, 0, 0, 0)), (-99, 99, 5, 0, 1))

    def test_errors_in_turn(self):
        for word, number in WRONG_WORDS:
            self.fails(BadWord, [number], turned_row, FIVE, HALF_ROW, word)
            self.fails(BadWord, [number], turned_prices, FIVE, ZEROS, word)
            self.fails(BadWord, [number], rival_row, FIVE, ZEROS, word)
            self.fails(BadRow, [-1], turned_row, FIVE, None, word)
            self.fails(BadRow, [4], turned_row, FIVE, HALF_ROW[:4] + (1,), word)
        for prices, place in WRONG_PRICES:
            self.fails(BadPrices, [place], turned_prices, FIVE, prices, None)
            self.fails(BadPrices, [place], rival_row, FIVE, prices, None)


class Rival(unittest.TestCase):
    def test_chance(self):
        random = Random(533)
        told = {True: 0, False: 0}
        for code in some_codes(534, 150, 7, 4) + some_codes(535, 10, 10, 6):
            prices = some_prices(random, code, random.choice((1, 9, 99)))
            row = cheapest_let(code, prices).row
            for word in random.sample(words_by_hand(code), min(3, len(words_by_hand(code)))):
                rival = rival_row(code, list(prices), list(word))
                self.assertEqual(rival is None, is_sole(code, prices) and row == ratios(*word))
                told[rival is None] += 1
                if rival is not None:
                    self.assertEqual((type(rival), len(rival)), (tuple, code.bits))
                    self.assertIsNone(fault_by_hand(code, rival))
                    self.assertNotEqual(rival, ratios(*word))
                    self.assertLessEqual(digit_costs(prices, rival), digit_costs(prices, word))
        self.assertGreater(min(told.values()), 30)

    def test_plain_ones(self):
        self.assertIsNone(rival_row(RING, (1, 1, 1), (0, 0, 0)))
        self.assertIsNone(rival_row(RING, (-1, -1, 1), (1, 1, 1)))
        self.assertIsNotNone(rival_row(RING, (-1, -1, 1), (0, 0, 0)))
        for word in ((0, 0, 0), (1, 1, 1)):
            rival = fractions(rival_row(RING, (1, 1, -2), word))
            self.assertEqual(rival, [rival[0]] * 3)
            self.assertNotEqual(rival[0], word[0])
            self.assertTrue(0 <= rival[0] <= 1)
        self.assertIsNone(rival_row(Code(1, [(0,)]), (-99,), (0,)))
        self.assertEqual(digit_costs((0, 0, -1, 0, 0), rival_row(FIVE, (0, 0, -1, 0, 0), (1, 1, 0, 0, 0))) <= 0, True)
        self.assertIsNone(rival_row(FIVE, (-3, -3, 5, 2, 2), (1, 1, 0, 0, 0)))
        self.assertEqual(Fraction(0), digit_costs((0,) * 5, rival_row(FIVE, (0,) * 5, (1, 1, 0, 1, 1))))


if __name__ == "__main__":
    unittest.main()
