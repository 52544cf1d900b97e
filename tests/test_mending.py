"""Tests of letbychecks.mending: [5.8]."""

import unittest
from fractions import Fraction
from random import Random

from letbychecks.cheapest import cheapest_let, is_sole
from letbychecks.codes import Code
from letbychecks.errors import BadPrices, BadReceived
from letbychecks.flips import flip_fault
from letbychecks.mending import Mended, Unsure, mend_prices, mend_received
from letbychecks.words import words_of
from tests.helpers import FIVE, HALF_ROW, WRONG_PRICES, Raises, digit_costs, fault_by_hand, fractions, lots_of, ratios
from tests.helpers import some_codes, some_prices

RING = Code(3, [(0, 1), (1, 2), (0, 2)])


class Judged(Raises, unittest.TestCase):
    def judged(self, code, prices, told):
        """The result fits the cheapest rows; return whether it is Mended."""
        least = cheapest_let(code, prices)
        sole = is_sole(code, prices) and all(share[1] == 1 for share in least.row)
        if sole:
            self.assertIs(type(told), Mended)
            self.assertEqual(vars(told), {"word": tuple(share[0] for share in least.row)})
        else:
            self.assertIs(type(told), Unsure)
            self.assertEqual(list(vars(told)), ["row"])
            self.assertEqual((type(told.row), len(told.row)), (tuple, code.bits))
            self.assertIsNone(fault_by_hand(code, told.row))
            self.assertEqual(digit_costs(prices, told.row), Fraction(*least.price))
            self.assertTrue(any(0 < share < 1 for share in fractions(told.row)))
        return sole


class MendPrices(Judged):
    def test_chance(self):
        random = Random(541)
        told = {True: 0, False: 0}
        for code in some_codes(542, 200, 8, 5) + some_codes(543, 10, 10, 6):
            prices = some_prices(random, code, random.choice((0, 1, 1, 9, 99)))
            told[self.judged(code, prices, mend_prices(code, list(prices)))] += 1
        self.assertGreater(min(told.values()), 50)

    def test_plain_ones(self):
        self.assertEqual(mend_prices(FIVE, (1,) * 5).word, (0,) * 5)
        self.assertEqual(mend_prices(FIVE, (0, 0, -1, 0, 0)).row, HALF_ROW)
        self.assertEqual(mend_prices(Code(1, [(0,)]), (-9,)).word, (0,))
        self.assertEqual(mend_prices(Code(1, []), (-9,)).word, (1,))
        share = Fraction(*mend_prices(Code(1, []), (0,)).row[0])
        self.assertTrue(0 < share < 1)

    def test_wrong_prices(self):
        for prices, place in WRONG_PRICES:
            self.fails(BadPrices, [place], mend_prices, FIVE, prices)

    def test_results(self):
        thing = object()
        self.assertEqual(vars(Mended(word=thing)), {"word": thing})
        self.assertEqual(vars(Unsure(row=thing)), {"row": thing})
        self.assertFalse(Mended(1) == Mended(1))
        self.assertFalse(Unsure(1) == Unsure(1))


class MendReceived(Judged):
    def test_as_the_prices_tell(self):
        random = Random(544)
        for code in some_codes(545, 80, 8, 5):
            received = [random.randint(0, 1) for _ in range(code.bits)]
            prices = [-1 if digit else 1 for digit in received]
            self.judged(code, prices, mend_received(code, received))
            self.judged(code, prices, mend_received(code, tuple(received)))

    def test_words_with_flips(self):
        """Mended to the sent word exactly if the lot of flips is mended, whatever word was sent."""
        random = Random(546)
        told = {True: 0, False: 0}
        for code in some_codes(547, 40, 6, 6) + [RING, FIVE]:
            words = list(words_of(code))
            for lot in random.sample(lots_of(range(code.bits)), min(5, 1 << code.bits)):
                mended = flip_fault(code, lot) is None
                zero = mend_received(code, [int(bit in lot) for bit in range(code.bits)])
                for word in random.sample(words, min(3, len(words))):
                    received = [digit ^ (bit in lot) for bit, digit in enumerate(word)]
                    result = mend_received(code, received)
                    self.assertEqual(isinstance(result, Mended) and result.word == word, mended)
                    self.assertIs(type(result), type(zero))
                    if isinstance(result, Mended):
                        self.assertEqual(result.word, tuple(one ^ other for one, other in zip(word, zero.word)))
                told[mended] += 1
        self.assertGreater(min(told.values()), 20)

    def test_plain_ones(self):
        self.assertEqual(mend_received(RING, (0, 1, 0)).word, (0, 0, 0))
        self.assertEqual(mend_received(RING, [1, 1, 0]).word, (1, 1, 1))
        self.assertIsInstance(mend_received(FIVE, (1, 0, 0, 0, 0)), Unsure)
        self.assertEqual(mend_received(FIVE, (1, 1, 0, 0, 0)).word, (1, 1, 0, 0, 0))
        long = Code(10, [(bit, bit + 1) for bit in range(9)])
        self.assertEqual(mend_received(long, (1, 0, 1, 1, 0, 1, 0, 1, 1, 0)).word, (1,) * 10)

    def test_wrong_received(self):
        for received, place in ((None, -1), ((), -1), ((0,) * 4, -1), ("00000", -1), ((0, 0, 2, 0, True), 2),
                                ((0, True, 0, 0, 0), 1), ([0, 0, 0, 0, None], 4), ((False,) * 5, 0),
                                ((0, 0, -1, 0, 0), 2), ((0, 0, 0, 1.0, 0), 3), ((ratios(1), 0, 0, 0, 0), 0)):
            self.fails(BadReceived, [place], mend_received, FIVE, received)


if __name__ == "__main__":
    unittest.main()
