"""Tests of letbychecks.cheapest: [4.1], [4.7], [4.8], [4.9], [4.10], and of [4.12] what it says of rows."""

import unittest
from fractions import Fraction
from random import Random

from letbychecks.cheapest import Cheapest, Span, SpanEnd, cheapest_let, is_sole, share_range
from letbychecks.codes import Code
from letbychecks.errors import BadBit, BadPrices
from letbychecks.papers import paper_fault
from letbychecks.words import with_sums, words_of
from tests.helpers import FIVE, HALF_ROW, WRONG_PRICES, Raises, corners_by_hand, digit_costs, excess_by_hand
from tests.helpers import fault_by_hand, fractions, is_corner_by_hand, price_by_hand, ratio, ratios, rests_by_hand
from tests.helpers import some_codes, some_prices

SEVEN = Code(7, [(0, 1, 2), (0, 3, 4), (1, 3, 5), (2, 3, 6)])
TEN = Code(10, [tuple(range(10)), (0, 1, 2), (2, 3, 4, 5), (5, 6), (6, 7, 8, 9), (0, 9), (1, 4, 7)])


def has_paper_form(code, paper):
    """Whether the paper has the form of [4.2], tuples throughout."""
    lots, bits = paper
    keys = [(number, len(lot), lot) for number, lot, _ in lots]
    fit = all(set(lot) <= set(code.checks[number]) and len(lot) % 2 == 1 and list(lot) == sorted(set(lot))
              and type(lot) is tuple for number, lot, _ in lots)
    weights = [weight for _, _, weight in lots] + [weight for _, weight in bits]
    return (fit and type(paper) is type(lots) is type(bits) is tuple and keys == sorted(set(keys))
            and [bit for bit, _ in bits] == sorted({bit for bit, _ in bits})
            and all(ratio(Fraction(*weight)) == weight and weight[0] > 0 for weight in weights))


def proves(code, numbers, price, paper):
    """Whether the paper shows that at these numbers no let row costs less than the price, as plain sums tell."""
    return (has_paper_form(code, paper) and min(rests_by_hand(code, numbers, paper)) >= 0
            and price_by_hand(paper) == price)


def judged(code, prices):
    """Codes and prices by chance, and those that the issue names."""
    return f"{code.bits} {code.checks} {prices}"


def priced_codes():
    """Couples of codes and prices."""
    random = Random(401)
    couples = []
    for code in some_codes(402, 110, 8, 5):
        prices = random.choice((some_prices(random, code), some_prices(random, code, 99), some_prices(random, code, 1)))
        couples.append((code, prices))
    for code in some_codes(403, 30, 5, 6) + [SEVEN, FIVE]:
        couples.extend((code, (price,) * code.bits) for price in (0, 99, -99))
    for bits in (1, 2, 5, 8):
        everything = tuple(range(bits))
        for checks in ((), (everything,), (everything,) * 3, ((0,), (0,)), ((bits - 1,), everything)):
            couples.append((Code(bits, checks), some_prices(random, Code(bits, checks))))
    couples.extend((code, some_prices(random, code, 99)) for code in some_codes(404, 3, 10, 8))
    couples.append((Code(10, [(0, 1, 2)]), (-1,) * 10))
    return couples


class CheapestLet(Raises, unittest.TestCase):
    def test_judged_by_plain_sums(self):
        for code, prices in priced_codes():
            told = cheapest_let(code, prices)
            price = Fraction(*told.price)
            self.assertEqual(ratio(price), told.price)
            self.assertTrue(is_corner_by_hand(code, told.row), judged(code, prices))
            self.assertEqual(digit_costs(prices, told.row), price)
            self.assertTrue(proves(code, prices, price, told.paper), judged(code, prices))
            self.assertIsNone(paper_fault(code, prices, told.price, told.paper))
            self.assertIs(type(told.row), tuple)

    def test_wide_checks(self):
        for prices in ((-99,) * 10, (-3, 5, -7, 9, -11, 13, -15, 17, -19, 21), (0,) * 10):
            told = cheapest_let(TEN, prices)
            price = Fraction(*told.price)
            self.assertTrue(is_corner_by_hand(TEN, told.row))
            self.assertEqual(digit_costs(prices, told.row), price)
            self.assertTrue(proves(TEN, prices, price, told.paper))

    def test_against_all_corners(self):
        random = Random(405)
        for code in some_codes(406, 30, 3, 3):
            corners = corners_by_hand(code)
            for most in (0, 1, 9):
                prices = some_prices(random, code, most)
                told = cheapest_let(code, prices)
                self.assertEqual(Fraction(*told.price), min(digit_costs(prices, row) for row in corners))
                self.assertIn(told.row, corners)

    def test_many_checks(self):
        random = Random(407)
        code = Code(10, [random.sample(range(10), random.randint(2, 6)) for _ in range(63)])
        prices = (-99,) * 10
        told = cheapest_let(code, prices)
        self.assertTrue(proves(code, prices, digit_costs(prices, told.row), told.paper))
        self.assertIsNone(fault_by_hand(code, told.row))

    def test_lists_and_tuples(self):
        for given in ((0, 0, -1, 0, 0), [0, 0, -1, 0, 0]):
            told = cheapest_let(FIVE, given)
            self.assertEqual((told.price, told.row), ((-1, 1), HALF_ROW))
            self.assertEqual(given, type(given)((0, 0, -1, 0, 0)))
            self.assertTrue(is_sole(FIVE, given))
            self.assertEqual(share_range(FIVE, given, 0).low.share, (1, 2))

    def test_whole_prices_are_ratios(self):
        self.assertEqual(cheapest_let(Code(1, []), (-5,)).price, (-5, 1))
        self.assertEqual(cheapest_let(Code(1, []), (5,)).price, (0, 1))
        self.assertEqual(cheapest_let(Code(1, [(0,)]), (-5,)).price, (0, 1))
        self.assertEqual(cheapest_let(with_sums(SEVEN), (-1,) * 7).price, (-14, 3))

    def test_papers_and_cheapest_rows_fit(self):
        """[4.8]: what a cheapest row must be by the rests and entries of a paper."""
        random = Random(408)
        for code in some_codes(409, 60, 5, 4):
            prices = some_prices(random, code, 2)
            paper = cheapest_let(code, prices).paper
            spans = [share_range(code, prices, bit) for bit in range(code.bits)]
            for row in [end.row for span in spans for end in (span.low, span.high)]:
                for share, rest in zip(row, rests_by_hand(code, prices, paper)):
                    self.assertTrue(rest == 0 or share == (0, 1))
                for bit, _ in paper[1]:
                    self.assertEqual(row[bit], (1, 1))
                for number, lot, _ in paper[0]:
                    self.assertEqual(excess_by_hand(code.checks[number], lot, row), 0)

    def test_wrong_prices(self):
        for prices, place in WRONG_PRICES:
            self.fails(BadPrices, [place], cheapest_let, FIVE, prices)
            self.fails(BadPrices, [place], is_sole, FIVE, prices)
            self.fails(BadPrices, [place], share_range, FIVE, prices, None)

    def test_result(self):
        self.assertEqual(list(vars(Cheapest(paper=3, row=2, price=1)).items()), [("price", 1), ("row", 2), ("paper", 3)])
        self.assertFalse(Cheapest(1, 2, 3) == Cheapest(1, 2, 3))


class ShareRange(Raises, unittest.TestCase):
    def end_judged(self, code, prices, bit, end, sign):
        """One end: its row, and its paper at the numbers of [4.9]."""
        least = Fraction(*cheapest_let(code, prices).price)
        self.assertIsNone(fault_by_hand(code, end.row))
        self.assertEqual(digit_costs(prices, end.row), least)
        self.assertEqual(end.row[bit], end.share)
        self.assertTrue(type(end.times) is int and end.times >= 0)
        numbers = [end.times * price for price in prices]
        numbers[bit] += sign
        price = end.times * least + sign * Fraction(*end.share)
        self.assertTrue(proves(code, numbers, price, end.paper), judged(code, prices))

    def test_judged_by_plain_sums(self):
        alike = unlike = 0
        random = Random(411)
        for code, prices in priced_codes():
            for bit in random.sample(range(code.bits), min(2, code.bits)):
                span = share_range(code, prices, bit)
                self.end_judged(code, prices, bit, span.low, 1)
                self.end_judged(code, prices, bit, span.high, -1)
                self.assertLessEqual(Fraction(*span.low.share), Fraction(*span.high.share))
                alike += span.low.share == span.high.share
                unlike += span.low.share != span.high.share
        self.assertGreater(min(alike, unlike), 50)

    def test_wide_checks(self):
        for prices in ((-99,) * 10, (0,) * 10, (1, -1) * 5):
            for bit in (0, 9):
                span = share_range(TEN, prices, bit)
                self.end_judged(TEN, prices, bit, span.low, 1)
                self.end_judged(TEN, prices, bit, span.high, -1)

    def test_against_all_corners(self):
        random = Random(412)
        for code in some_codes(413, 30, 3, 3):
            corners = corners_by_hand(code)
            for most in (0, 1, 2):
                prices = some_prices(random, code, most)
                least = min(digit_costs(prices, row) for row in corners)
                cheapest = [fractions(row) for row in corners if digit_costs(prices, row) == least]
                for bit in range(code.bits):
                    span = share_range(code, prices, bit)
                    shares = [row[bit] for row in cheapest]
                    self.assertEqual((span.low.share, span.high.share), (ratio(min(shares)), ratio(max(shares))))
                self.assertEqual(is_sole(code, prices), len(cheapest) == 1)

    def test_example(self):
        """[4.13]"""
        span = share_range(FIVE, (0, 0, -1, 0, 0), 0)
        self.assertEqual((span.low.share, span.high.share), ((1, 2), (1, 2)))
        self.assertEqual((span.low.row, span.high.row), (HALF_ROW, HALF_ROW))
        self.assertEqual(cheapest_let(FIVE, (0, 0, -1, 0, 0)).paper, ((), ((2, (1, 1)),)))

    def test_wrong_bits(self):
        for bit in (-1, 5, True, None, "0", 1.0, (0,)):
            self.fails(BadBit, [bit], share_range, FIVE, (0,) * 5, bit)
        self.fails(BadPrices, [4], share_range, FIVE, (0, 0, 0, 0, 100), 9)

    def test_results(self):
        end = SpanEnd(times=3, paper=4, row=2, share=1)
        self.assertEqual(list(vars(end).items()), [("share", 1), ("row", 2), ("times", 3), ("paper", 4)])
        self.assertEqual(list(vars(Span(high=2, low=1)).items()), [("low", 1), ("high", 2)])
        self.assertFalse(Span(1, 2) == Span(1, 2))


class Sole(unittest.TestCase):
    def test_as_all_ends_tell(self):
        told = {True: 0, False: 0}
        for code, prices in priced_codes()[::2]:
            spans = [share_range(code, prices, bit) for bit in range(code.bits)]
            sole = all(span.low.share == span.high.share for span in spans)
            self.assertIs(is_sole(code, prices), sole, judged(code, prices))
            told[sole] += 1
        self.assertGreater(min(told.values()), 20)

    def test_plain_ones(self):
        self.assertIs(is_sole(Code(1, []), (0,)), False)
        self.assertIs(is_sole(Code(1, [(0,)]), (0,)), True)
        self.assertIs(is_sole(Code(1, []), (-1,)), True)
        self.assertIs(is_sole(FIVE, (1, 1, 1, 1, 1)), True)
        self.assertIs(is_sole(FIVE, (1, -1, 1, 1, 1)), False)
        self.assertIs(is_sole(Code(10, [(0, 1)]), (0,) + (1,) * 9), True)
        self.assertIs(is_sole(Code(10, [(0, 1)]), (1, -1) + (1,) * 8), False)


class AllRows(unittest.TestCase):
    """[4.12]"""

    def test_bounds(self):
        for code, prices in priced_codes()[:80]:
            price = Fraction(*cheapest_let(code, prices).price)
            self.assertLessEqual(price, 0)
            self.assertTrue(all(price <= digit_costs(prices, word) for word in words_of(code)))

    def test_turned(self):
        random = Random(414)
        for code in some_codes(415, 40, 6, 4):
            prices = some_prices(random, code, 3)
            word = random.choice(list(words_of(code)))
            turned = tuple(-price if digit else price for price, digit in zip(prices, word))
            price = Fraction(*cheapest_let(code, prices).price)
            self.assertEqual(Fraction(*cheapest_let(code, turned).price), price - digit_costs(prices, word))
            self.assertEqual(is_sole(code, prices), is_sole(code, turned))
            for bit in range(code.bits):
                low, high = [Fraction(*end.share) for end in vars(share_range(code, prices, bit)).values()]
                ends = [Fraction(*end.share) for end in vars(share_range(code, turned, bit)).values()]
                self.assertEqual(ends, [1 - high, 1 - low] if word[bit] else [low, high])

    def test_more_checks_and_more_prices(self):
        random = Random(416)
        for code in some_codes(417, 50, 6, 4):
            prices, more = some_prices(random, code), some_prices(random, code)
            price = Fraction(*cheapest_let(code, prices).price)
            fewer = Code(code.bits, code.checks[1:])
            self.assertLessEqual(Fraction(*cheapest_let(fewer, prices).price), price)
            both = [low + high for low, high in zip(prices, more)]
            self.assertGreaterEqual(Fraction(*cheapest_let(code, both).price),
                                    price + Fraction(*cheapest_let(code, more).price))
            for times in (0, 1, 7):
                at = [times * number for number in prices]
                self.assertEqual(Fraction(*cheapest_let(code, at).price), times * price)

    def test_row_of_ratios(self):
        self.assertEqual(cheapest_let(Code(3, [(0, 1), (0, 2), (0, 1, 2)]), (-1, -1, -1)).row,
                         ratios("2/3", "2/3", "2/3"))


if __name__ == "__main__":
    unittest.main()
