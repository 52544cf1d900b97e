"""Tests of letbychecks.papers: [4.2], [4.3], [4.4], [4.5], [4.6]."""

import unittest
from fractions import Fraction
from random import Random

from letbychecks.codes import Code
from letbychecks.errors import BadPrices, BadTimes, BadWord, LowRest
from letbychecks.letrows import is_let
from letbychecks.papers import paper_fault, paper_price, paper_rests, scaled_paper, summed_paper, turned_paper
from letbychecks.words import cost_of, word_cost
from tests.helpers import FIVE, ODD_THINGS, WRONG_PRICES, Raises, grid_rows, odd_lots_by_hand, price_by_hand, ratio
from tests.helpers import ratios, rests_by_hand, some_codes, some_prices, words_by_hand

EMPTY = ((), ())
ZEROS = (0,) * 5
PRICES = (0, 0, -1, 0, 0)
SOLE = ((), ((2, (1, 1)),))
PAPER = (((0, (1,), (1, 2)), (1, (0,), (1, 3)), (1, (0, 1, 2), (2, 1))), ((0, (1, 2)), (4, (5, 1))))


def lists(paper):
    """The paper with lists but for the weights."""
    lots = [[number, list(lot), weight] for number, lot, weight in paper[0]]
    return [lots, [[bit, weight] for bit, weight in paper[1]]]


def some_paper(random, code, bits=True):
    """A paper by chance."""
    lots = [(number, lot, ratio(Fraction(random.randint(1, 9), random.randint(1, 4))))
            for number, check in enumerate(code.checks) for lot in odd_lots_by_hand(check) if random.random() < 0.4]
    more = [(bit, ratio(Fraction(random.randint(1, 9), 2))) for bit in range(code.bits) if random.random() < 0.5]
    return (tuple(lots), tuple(more) if bits else ())


def good_paper(random, code, prices):
    """A paper by chance with bit entries that leave no rest below 0."""
    lots, more = some_paper(random, code)
    entries = []
    for bit, rest in enumerate(rests_by_hand(code, prices, (lots, more))):
        weight = sum(Fraction(*weight) for mine, weight in more if mine == bit) + max(-rest, 0)
        if weight > 0:
            entries.append((bit, ratio(weight)))
    return (lots, tuple(entries))


class Sums(Raises, unittest.TestCase):
    def test_chance(self):
        random = Random(91)
        for code in some_codes(92, 100, 5, 3):
            prices = some_prices(random, code)
            paper = some_paper(random, code)
            for given in (paper, lists(paper)):
                self.assertEqual(paper_rests(code, list(prices), given), ratios(*rests_by_hand(code, prices, paper)))
                self.assertEqual(paper_price(code, given), ratio(price_by_hand(paper)))

    def test_examples(self):
        self.assertEqual(paper_rests(FIVE, PRICES, SOLE), ratios(0, 0, 0, 0, 0))
        self.assertEqual(paper_price(FIVE, SOLE), (-1, 1))
        self.assertEqual(paper_rests(FIVE, PRICES, EMPTY), ratios(*PRICES))
        self.assertEqual(paper_price(FIVE, EMPTY), (0, 1))
        self.assertEqual(paper_price(FIVE, [[], []]), (0, 1))
        self.assertEqual(paper_rests(FIVE, ZEROS, PAPER),
                         ratios(Fraction(1, 2) - Fraction(1, 2) + Fraction(1, 3) + 2,
                                Fraction(1, 2) - Fraction(1, 3) + 2, Fraction(-1, 3) + 2, 0, 5))
        self.assertEqual(paper_price(FIVE, PAPER), ratio(Fraction(-4) - Fraction(11, 2)))

    def test_papers_bound_all_let_rows(self):
        random = Random(93)
        for code in some_codes(94, 40, 4, 3):
            prices = some_prices(random, code)
            paper = good_paper(random, code, prices)
            price = Fraction(*paper_price(code, paper))
            self.assertIsNone(paper_fault(code, prices, ratio(price), paper))
            for row in grid_rows(code.bits, 2):
                if is_let(code, row):
                    self.assertGreaterEqual(Fraction(*cost_of(prices, row)), price)

    def test_wrong_prices(self):
        for prices, place in WRONG_PRICES:
            self.fails(BadPrices, [place], paper_rests, FIVE, prices, SOLE)
            self.fails(BadPrices, [place], paper_fault, FIVE, prices, None, None)
            self.fails(BadPrices, [place], turned_paper, FIVE, prices, SOLE, None)


class Faults(unittest.TestCase):
    def fault(self, paper, price=(0, 1), prices=(99,) * 5):
        return paper_fault(FIVE, prices, price, paper)

    def lot_fault(self, *entries):
        return self.fault((entries, ()))

    def test_right_ones(self):
        self.assertIsNone(self.fault(SOLE, (-1, 1), PRICES))
        self.assertIsNone(self.fault(EMPTY, (0, 1), ZEROS))
        self.assertIsNone(self.fault([[], []]))
        self.assertIsNone(self.fault(PAPER, ratio(price_by_hand(PAPER))))
        self.assertIsNone(self.fault(lists(PAPER), ratio(price_by_hand(PAPER)), [0] * 5))

    def test_form_of_the_whole(self):
        for paper in (*ODD_THINGS, 5, "ab", ((),), ((), (), ()), (None, ()), ((), None), ("", ()), ((), ""), ({}, ()),
                      ((), {}), (5, ()), [[], 5]):
            self.assertEqual(self.fault(paper), "form", paper)

    def test_form_of_lot_entries(self):
        one = (1, 1)
        for entry in (None, 5, "abc", (), (0, (0,)), (0, (0,), one, one), (4, (0,), one), (-1, (3,), one),
                      (True, (0,), one), (None, (0,), one), ("0", (0,), one), (0.0, (0,), one), (0, None, one),
                      (0, 0, one), (0, "0", one), (0, (), one), (0, (0, 1), one), (0, (2,), one), (1, (0, 1), one),
                      (0, (True,), one), (0, (False,), one), (0, (0.0,), one), (0, (None,), one), (0, ([0],), one),
                      (1, (0, 1, 1), one), (1, (2, 1, 0), one), (1, (0, 2, 1), one), (1, (0, 0, 0), one),
                      (1, (0, 1, 3), one), (2, (0, 1, 2), one), (0, {0}, one), (1, (0, 0, 1), one)):
            self.assertEqual(self.lot_fault(entry), "form", entry)
            self.assertEqual(self.lot_fault((0, (0,), None), entry), "form", entry)

    def test_order_of_lot_entries(self):
        one = (1, 1)
        rising = [(0, (0,)), (0, (1,)), (1, (0,)), (1, (2,)), (1, (0, 1, 2)), (2, (2,)), (3, (3,))]
        for first in range(len(rising)):
            for second in range(len(rising)):
                fault = self.fault(([(*rising[first], one), (*rising[second], one)], ()), None)
                self.assertEqual(fault, "price" if first < second else "form")

    def test_form_of_bit_entries(self):
        one = (1, 1)
        for entry in (None, 5, "ab", (), (0,), (0, one, one), (5, one), (-1, one), (True, one), (None, one), (1.0, one),
                      ("1", one), ((1,), one)):
            self.assertEqual(self.fault(((), (entry,))), "form", entry)
            self.assertEqual(self.fault(((), [(0, None), entry])), "form", entry)
        self.assertEqual(self.fault(((), ((1, one), (1, one)))), "form")
        self.assertEqual(self.fault(((), ((2, one), (1, one)))), "form")
        self.assertEqual(self.fault(((), ((1, one), (2, one))), (-2, 1)), None)

    def test_weight(self):
        for weight in ((0, 1), (-1, 1), [1, 1], 1, 0, True, None, (2, 2), (True, 1), 1.0, "1", (1,), (1, 0)):
            self.assertEqual(self.lot_fault((0, (0,), weight)), "weight")
            self.assertEqual(self.fault((((0, (0,), (1, 1)),), ((3, weight),))), "weight")
            self.assertEqual(self.fault((((0, (0,), weight),), ((3, (1, 1)),))), "weight")

    def test_bit(self):
        self.assertEqual(self.fault(EMPTY, (0, 1), PRICES), "bit")
        self.assertEqual(self.fault(SOLE, (-1, 1), (0, 0, -2, 0, 0)), "bit")
        self.assertEqual(self.fault((((0, (0,), (1, 9)),), ()), (0, 1), ZEROS), "bit")
        self.assertIsNone(self.fault((((0, (0,), (1, 9)),), ((1, (1, 9)),)), (-1, 9), ZEROS))
        self.assertEqual(self.fault(((), ()), (0, 1), (0, 0, 0, 0, -1)), "bit")

    def test_price(self):
        for price in (*ODD_THINGS, 0, (-1, 2), (1, 1), [-1, 1], (-2, 2), (0, 1), "-1"):
            self.assertEqual(self.fault(SOLE, price, PRICES), "price")
        for price in (0, None, [0, 1], (0, 2), (True, 1), (0, True), False):
            self.assertEqual(self.fault(EMPTY, price), "price")

    def test_each_word_ahead_of_the_next(self):
        bad = (-99,) * 5
        late = (((0, (0,), None), (0, (0,), (1, 1))), ())
        self.assertEqual(self.fault(late, None, bad), "form")
        self.assertEqual(self.fault((((0, (0,), None),), ((9, (1, 1)),)), None, bad), "form")
        self.assertEqual(self.fault((((0, (0,), (1, 1)),), ((4, None),)), None, bad), "weight")
        self.assertEqual(self.fault(EMPTY, None, bad), "bit")
        self.assertEqual(self.fault(EMPTY, None, ZEROS), "price")


class Made(Raises, unittest.TestCase):
    def test_summed(self):
        other = (((0, (0,), (1, 1)), (1, (0,), (2, 3)), (3, (4,), (1, 5))), ((1, (1, 1)), (4, (1, 2))))
        told = (((0, (0,), (1, 1)), (0, (1,), (1, 2)), (1, (0,), (1, 1)), (1, (0, 1, 2), (2, 1)), (3, (4,), (1, 5))),
                ((0, (1, 2)), (1, (1, 1)), (4, (11, 2))))
        self.assertEqual(summed_paper(PAPER, other), told)
        self.assertEqual(summed_paper(lists(other), lists(PAPER)), told)
        self.assertEqual(summed_paper(EMPTY, PAPER), PAPER)
        self.assertEqual(summed_paper(lists(PAPER), [[], []]), PAPER)
        self.assertEqual(summed_paper([[], []], EMPTY), EMPTY)

    def test_order_of_summed(self):
        one = (((1, (0, 1, 2), (1, 1)),), ())
        other = (((1, (2,), (1, 1)),), ())
        self.assertEqual(summed_paper(one, other)[0], ((1, (2,), (1, 1)), (1, (0, 1, 2), (1, 1))))

    def test_sums_at_summed_prices(self):
        random = Random(95)
        for code in some_codes(96, 60, 5, 3):
            prices, more = some_prices(random, code), some_prices(random, code)
            one, other = good_paper(random, code, prices), good_paper(random, code, more)
            both = summed_paper(one, other)
            at_both = [low + high for low, high in zip(prices, more)]
            price = ratio(price_by_hand(one) + price_by_hand(other))
            self.assertIsNone(paper_fault(code, at_both, price, both))
            self.assertEqual(summed_paper(other, one), both)

    def test_scaled(self):
        self.assertEqual(scaled_paper(PAPER, 1), PAPER)
        self.assertEqual(scaled_paper(lists(PAPER), 1), PAPER)
        self.assertEqual(scaled_paper(PAPER, 6), (((0, (1,), (3, 1)), (1, (0,), (2, 1)), (1, (0, 1, 2), (12, 1))),
                                                  ((0, (3, 1)), (4, (30, 1)))))
        self.assertEqual(scaled_paper(PAPER, 0), EMPTY)
        self.assertEqual(scaled_paper([[], []], 7), EMPTY)
        self.assertEqual(scaled_paper(SOLE, 10 ** 50), ((), ((2, (10 ** 50, 1)),)))
        self.assertEqual(scaled_paper(PAPER, 2), summed_paper(PAPER, PAPER))

    def test_wrong_times(self):
        for times in (-1, True, False, None, 1.0, "1", (1, 1), -10 ** 50):
            self.fails(BadTimes, [times], scaled_paper, PAPER, times)

    def test_inputs_stay(self):
        given = lists(PAPER)
        summed_paper(given, given)
        scaled_paper(given, 3)
        turned_paper(FIVE, [99] * 5, given, [1, 1, 0, 0, 0])
        self.assertEqual(given, lists(PAPER))


class Turned(Raises, unittest.TestCase):
    def test_chance(self):
        random = Random(97)
        for code in some_codes(98, 150, 6, 3):
            prices = some_prices(random, code)
            paper = good_paper(random, code, prices)
            word = random.choice(words_by_hand(code))
            turned = turned_paper(code, list(prices), lists(paper), list(word))
            at = tuple(-price if digit else price for price, digit in zip(prices, word))
            price = ratio(price_by_hand(paper) - word_cost(prices, word))
            self.assertIsNone(paper_fault(code, at, price, turned))
            self.assertEqual(len(turned[0]), len(paper[0]))
            self.assertEqual(turned_paper(code, at, turned, word), paper)
            weights = dict(paper[1])
            rests = rests_by_hand(code, prices, paper)
            for bit, rest in enumerate(rests_by_hand(code, at, turned)):
                self.assertEqual(ratio(rest), weights.get(bit, (0, 1)) if word[bit] else ratio(rests[bit]))
            self.assertEqual({type(turned), type(turned[0]), type(turned[1])}, {tuple})

    def test_example(self):
        paper = (((0, (1,), (1, 2)), (1, (0,), (1, 3)), (1, (0, 1, 2), (2, 1))), ((0, (1, 2)),))
        turned = turned_paper(FIVE, (1, 1, 1, 1, 1), paper, (1, 1, 0, 0, 0))
        self.assertEqual(turned[0], ((0, (0,), (1, 2)), (1, (1,), (1, 3)), (1, (2,), (2, 1))))
        self.assertEqual(turned[1], ((0, (10, 3)), (1, (19, 6))))
        self.assertEqual(turned_paper(FIVE, (-1, -1, 1, 1, 1), turned, (1, 1, 0, 0, 0)), paper)

    def test_order_is_restored(self):
        code = Code(3, [(0, 1, 2)])
        paper = (((0, (0,), (1, 1)), (0, (0, 1, 2), (2, 1))), ())
        turned = turned_paper(code, (9, 9, 9), paper, (1, 1, 0))
        self.assertEqual(turned[0], ((0, (1,), (1, 1)), (0, (2,), (2, 1))))
        turned = turned_paper(code, (9, 9, 9), paper, (0, 1, 1))
        self.assertEqual(turned[0], ((0, (0,), (2, 1)), (0, (0, 1, 2), (1, 1))))

    def test_weight_0_gives_no_entry(self):
        self.assertEqual(turned_paper(FIVE, ZEROS, EMPTY, (1, 1, 0, 1, 1)), EMPTY)
        self.assertEqual(turned_paper(FIVE, (3, 0, 5, 0, 0), EMPTY, (1, 1, 0, 0, 0)), ((), ((0, (3, 1)),)))
        self.assertEqual(turned_paper(FIVE, PRICES, SOLE, (0,) * 5), SOLE)
        self.assertEqual(turned_paper(FIVE, (-1, 0, 0, 0, 0), ((), ((0, (1, 1)),)), (1, 1, 0, 0, 0)), EMPTY)

    def test_low_rests(self):
        for word in words_by_hand(FIVE):
            self.fails(LowRest, [2], turned_paper, FIVE, PRICES, EMPTY, word)
            self.fails(LowRest, [0], turned_paper, FIVE, (-1, 0, -1, 0, 0), EMPTY, word)
            self.fails(LowRest, [4], turned_paper, FIVE, (0, 0, -1, 0, -1), SOLE, word)
            self.fails(LowRest, [1], turned_paper, FIVE, ZEROS, (((0, (0,), (1, 9)),), ()), word)

    def test_errors_in_turn(self):
        self.fails(BadPrices, [2], turned_paper, FIVE, (0, 0, 100, 0, 0), EMPTY, (1, 0, 0, 0, 0))
        for word, number in (((1, 0, 0, 0, 0), 0), ((0, 0, 1, 0, 0), 1), (None, -1), ((0, 0, 0, 0, True), -1)):
            self.fails(BadWord, [number], turned_paper, FIVE, PRICES, EMPTY, word)


if __name__ == "__main__":
    unittest.main()
