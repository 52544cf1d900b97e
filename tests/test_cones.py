"""Tests of letbychecks.cones: [5.1], [5.2], [5.3]."""

import unittest
from fractions import Fraction
from itertools import product
from math import gcd
from random import Random

from letbychecks.cheapest import cheapest_let, is_sole
from letbychecks.codes import Code
from letbychecks.cones import check_entries, cone_fault, small_row, sole_paper, sole_paper_fault, zero_sole
from letbychecks.errors import BadCone, BadPrices, NotCone
from letbychecks.letrows import is_let
from tests.helpers import FIVE, WRONG_PRICES, Raises, cone_rows_by_hand, cone_rules_by_hand, digit_costs, keeps_rules
from tests.helpers import ratio, ratios, some_codes, some_prices

RING = Code(3, [(0, 1), (1, 2), (0, 2)])
BARE = Code(3, [(0,), (0, 1), (0, 1, 2)])
GREAT = 10 ** 59
WRONG_ENTRIES = ((None, -1), ((), -1), ((0,) * 4, -1), ("00000", -1), ({}, -1), ((0, 0, -1, 0, True), 2),
                 ([0, True, 0, 0, 0], 1), ((0, 0, 0, 0, None), 4), ((1.0, 0, 0, 0, 0), 0), ((0, 0, 0, (0, 1), 0), 3))


def fault_by_hand(code, row):
    """What cone_fault must return."""
    for number, check in enumerate(code.checks):
        for bit in check:
            if row[bit] > sum(row[other] for other in check if other != bit):
                return number, bit
    return None


def sums_by_hand(code, prices, paper):
    """The sums of [5.3]."""
    return [prices[bit] + sum(Fraction(*weight) * (1 if bit == mine else -1) for number, mine, weight in paper
                              if bit in code.checks[number]) for bit in range(code.bits)]


def priced_codes(most_bits=7):
    """Couples of codes and prices, some of them at an edge."""
    random = Random(501)
    couples = []
    for code in some_codes(502, 150, most_bits, 5) + some_codes(503, 12, 10, 7):
        prices = random.choice((some_prices(random, code, 1), some_prices(random, code), some_prices(random, code, 99)))
        couples.append((code, prices))
        couples.append((code, tuple(abs(price) - random.randint(0, 1) for price in prices)))
    for code in (FIVE, RING, BARE, Code(1, []), Code(1, [(0,)]), Code(4, []), Code(4, [(0, 1, 2, 3)] * 3)):
        couples.extend((code, (price,) * code.bits) for price in (0, 1, 99, -99))
    return couples


class Entries(Raises, unittest.TestCase):
    def test_check_entries(self):
        for row in ((0,) * 5, [1, 2, 3, 4, 5], (GREAT,) * 5):
            self.assertEqual(check_entries(FIVE, row), tuple(row))
            self.assertIs(type(check_entries(FIVE, row)), tuple)

    def test_wrong_entries(self):
        for row, place in WRONG_ENTRIES:
            for call in (check_entries, cone_fault, small_row):
                self.fails(BadCone, [place], call, FIVE, row)
        self.fails(BadCone, [4], small_row, FIVE, (9, 0, 0, 0, True))

    def test_cone_fault(self):
        for code in [FIVE, RING, BARE] + some_codes(504, 20, 4, 4):
            for row in product(range(3), repeat=code.bits):
                self.assertEqual(cone_fault(code, list(row)), fault_by_hand(code, row))

    def test_first_check_and_first_bit(self):
        self.assertEqual(cone_fault(FIVE, (0, 0, 0, 0, 0)), None)
        self.assertEqual(cone_fault(FIVE, (1, 1, 2, 1, 1)), None)
        self.assertEqual(cone_fault(FIVE, (1, 1, 3, 1, 1)), (1, 2))
        self.assertEqual(cone_fault(FIVE, (0, 1, 9, 9, 0)), (0, 1))
        self.assertEqual(cone_fault(FIVE, (0, 0, 0, 0, 1)), (2, 4))
        self.assertEqual(cone_fault(BARE, (1, 0, 0)), (0, 0))
        self.assertEqual(cone_fault(BARE, (0, 0, 1)), (2, 2))
        self.assertEqual(cone_fault(Code(2, [(0,)]), (0, GREAT)), None)
        self.assertEqual(cone_fault(Code(2, [(0, 1)] * 2), (GREAT, GREAT - 1)), (0, 0))
        self.assertEqual(cone_fault(Code(3, [(0, 1, 2)]), (GREAT, GREAT, 2 * GREAT + 1)), (0, 2))
        self.assertEqual(cone_fault(Code(3, [(0, 1, 2)]), (GREAT, GREAT, 2 * GREAT)), None)

    def test_small_row(self):
        self.assertEqual(small_row(FIVE, (1, 1, 2, 1, 1)), ratios(*[Fraction(1, 12)] * 2, Fraction(1, 6),
                                                                  *[Fraction(1, 12)] * 2))
        self.assertEqual(small_row(FIVE, [0] * 5), ratios(*[0] * 5))
        self.assertEqual(small_row(Code(1, []), (GREAT,)), ((1, 2),))
        self.assertEqual(small_row(Code(2, [(0, 1)]), (GREAT, GREAT)), ratios("1/4", "1/4"))

    def test_small_rows_are_let(self):
        for code in some_codes(505, 40, 4, 4):
            for row in cone_rows_by_hand(code, 2):
                told = small_row(code, row)
                self.assertTrue(is_let(code, told))
                self.assertEqual(told, ratios(*[Fraction(entry, 2 * sum(row) or 1) for entry in row]))

    def test_let_rows_and_cone_rows(self):
        """[5.1]: let rows are cone rows, and rows with a sum up to 2 that are cone rows are let."""
        for code in some_codes(506, 30, 4, 4):
            rules = cone_rules_by_hand(code)
            for row in product(range(3), repeat=code.bits):
                shares = ratios(*[Fraction(entry, 2) for entry in row])
                let = is_let(code, shares)
                if let or sum(row) <= 4:
                    self.assertEqual(let, keeps_rules(rules, row))

    def test_not_cone(self):
        self.fails(NotCone, [1, 2], small_row, FIVE, (1, 1, 3, 1, 1))
        self.fails(NotCone, [0, 1], small_row, FIVE, [0, 1, 0, 0, 0])
        self.fails(NotCone, [0, 0], small_row, BARE, (GREAT, 0, 0))


class ZeroSole(Raises, unittest.TestCase):
    def row_judged(self, code, prices, row):
        """A cone row, not 0, without a common divisor, that costs at most 0."""
        self.assertIs(type(row), tuple)
        self.assertTrue(all(type(entry) is int for entry in row))
        self.assertTrue(keeps_rules(cone_rules_by_hand(code), row))
        self.assertEqual(gcd(*row), 1)
        self.assertLessEqual(digit_costs(prices, row), 0)

    def paper_judged(self, code, prices, paper):
        """A sole paper as [5.3] tells it."""
        places = [(number, bit) for number, bit, _ in paper]
        self.assertEqual(places, sorted(set(places)))
        self.assertTrue(all(bit in code.checks[number] for number, bit in places))
        self.assertTrue(all(ratio(Fraction(*weight)) == weight and weight[0] > 0 for _, _, weight in paper))
        self.assertGreater(min(sums_by_hand(code, prices, paper)), 0)
        self.assertEqual({type(paper)} | {type(entry) for entry in paper}, {tuple})
        self.assertIsNone(sole_paper_fault(code, prices, paper))

    def test_just_one_tells_something(self):
        told = {True: 0, False: 0}
        for code, prices in priced_codes():
            row, paper = zero_sole(code, prices), sole_paper(code, list(prices))
            self.assertNotEqual(row is None, paper is None)
            told[row is None] += 1
            if row is None:
                self.paper_judged(code, prices, paper)
            else:
                self.row_judged(code, prices, row)
        self.assertGreater(min(told.values()), 50)

    def test_all_small_rows(self):
        """Each cone row costs above 0 where zero_sole tells None."""
        random = Random(507)
        for code in some_codes(508, 60, 4, 4):
            rows = cone_rows_by_hand(code, 3)
            for _ in range(3):
                prices = tuple(random.randint(-1, 3) for _ in range(code.bits))
                if zero_sole(code, prices) is None:
                    self.assertTrue(all(digit_costs(prices, row) > 0 for row in rows if any(row)))

    def test_as_the_let_rows_tell(self):
        for code, prices in priced_codes(6)[:200]:
            sole = is_sole(code, prices) and cheapest_let(code, prices).row == ratios(*[0] * code.bits)
            self.assertEqual(zero_sole(code, prices) is None, sole)

    def test_zero_as_the_only_cone_row(self):
        for prices in ((-99, -99, -99), (0, 0, 0), (1, -1, 99)):
            self.assertIsNone(zero_sole(BARE, prices))
            self.paper_judged(BARE, prices, sole_paper(BARE, prices))

    def test_weights_of_0_give_no_entry(self):
        for bits, checks, prices in ((3, [(2,), (0, 1, 2), (2,), (1,)], (1, -1, 1)),
                                     (5, [(0, 1, 3, 4), (0, 4), (1, 2, 4), (0, 1, 2, 3)], (-1, 1, 2, 1, 1)),
                                     (4, [(0, 3), (0, 2, 3), (0, 1, 3), (0, 1, 2, 3), (2,)], (1, 0, -1, 1)),
                                     (1, [(0,)], (0,)), (1, [(0,)], (-1,))):
            self.paper_judged(Code(bits, checks), prices, sole_paper(Code(bits, checks), prices))

    def test_costs_of_0(self):
        self.row_judged(RING, (0, 0, 0), zero_sole(RING, (0, 0, 0)))
        self.assertEqual(zero_sole(RING, (1, 1, -2)), (1, 1, 1))
        self.assertIsNone(sole_paper(RING, (1, 1, -2)))
        self.assertIsNone(zero_sole(RING, (1, 1, -1)))
        self.paper_judged(RING, (1, 1, -1), sole_paper(RING, (1, 1, -1)))

    def test_examples(self):
        self.row_judged(FIVE, (0, 0, -1, 0, 0), zero_sole(FIVE, (0, 0, -1, 0, 0)))
        self.assertIsNone(sole_paper(FIVE, (0, 0, -1, 0, 0)))
        self.assertIsNone(zero_sole(FIVE, (1, 1, 1, 1, 1)))
        self.assertIsNone(sole_paper_fault(FIVE, (1, 1, 1, 1, 1), ()))
        self.assertIsNone(sole_paper_fault(RING, (1, 1, -1), ((0, 1, (2, 3)), (1, 2, (4, 3)))))
        self.assertEqual(sums_by_hand(RING, (1, 1, -1), ((0, 1, (2, 3)), (1, 2, (4, 3)))), [Fraction(1, 3)] * 3)

    def test_wrong_prices(self):
        for prices, place in WRONG_PRICES:
            self.fails(BadPrices, [place], zero_sole, FIVE, prices)
            self.fails(BadPrices, [place], sole_paper, FIVE, prices)
            self.fails(BadPrices, [place], sole_paper_fault, FIVE, prices, None)


class PaperFault(unittest.TestCase):
    def fault(self, paper, prices=(9,) * 5):
        return sole_paper_fault(FIVE, prices, paper)

    def test_the_empty_paper(self):
        for empty in ((), []):
            self.assertIsNone(self.fault(empty))
            self.assertIsNone(self.fault(empty, [1] * 5))
            self.assertEqual(self.fault(empty, (1, 1, 0, 1, 1)), "bit")
            self.assertEqual(self.fault(empty, (-1, 1, 1, 1, 1)), "bit")

    def test_place(self):
        one = (1, 1)
        for paper in (None, 5, "abc", {}, True, "", object()):
            self.assertEqual(self.fault(paper), "place")
        for entry in (None, 5, (), (0, 0), (0, 0, one, one), "abc", (4, 0, one), (-1, 4, one), (-1, 0, one),
                      (True, 0, one), (None, 0, one), (0, 2, one), (0, -1, one), (0, True, one), (0, False, one), (0, None, one),
                      (0.0, 0, one), (0, 1.0, one), ("0", 0, one), (3, 2, one), (False, 0, one), ((0,), 0, one)):
            self.assertEqual(self.fault([entry]), "place", entry)
            self.assertEqual(self.fault([(0, 0, None), entry]), "place", entry)

    def test_order(self):
        one = (1, 1)
        places = [(number, bit) for number, check in enumerate(FIVE.checks) for bit in check]
        for first, low in enumerate(places):
            for second, high in enumerate(places):
                fault = self.fault([(*low, one), [*high, one]])
                self.assertEqual(fault, None if first < second else "place")

    def test_weight(self):
        for weight in ((0, 1), (-1, 1), [1, 1], 1, None, (2, 2), (True, 1), 1.0, "1", (1,), True, (1, 0), (0, 2)):
            self.assertEqual(self.fault([(0, 0, weight)]), "weight")
            self.assertEqual(self.fault([(0, 0, (1, 1)), (3, 4, weight)]), "weight")
            self.assertEqual(self.fault([(0, 0, weight), (3, 4, (1, 1))]), "weight")

    def test_bit(self):
        self.assertIsNone(self.fault([(0, 0, (17, 2))]))
        self.assertEqual(self.fault([(0, 0, (9, 1))]), "bit")
        self.assertEqual(self.fault([(0, 0, (10, 1))]), "bit")
        self.assertIsNone(self.fault([(1, 2, (3, 1)), (2, 3, (2, 1))], (4, 4, 0, 1, 3)))
        self.assertEqual(self.fault([(1, 2, (2, 1)), (2, 3, (2, 1))], (4, 4, 0, 1, 3)), "bit")
        self.assertEqual(self.fault([(1, 2, (3, 1)), (2, 3, (2, 1))], (3, 4, 0, 1, 3)), "bit")
        self.assertEqual(self.fault([(1, 2, (3, 1)), (2, 3, (2, 1))], (4, 4, 0, 1, 2)), "bit")

    def test_each_word_ahead_of_the_next(self):
        bad = (-99,) * 5
        self.assertEqual(self.fault([(0, 0, None), (0, 0, (1, 1))], bad), "place")
        self.assertEqual(self.fault([(0, 0, None), None], bad), "place")
        self.assertEqual(self.fault([(0, 0, (1, 1)), (0, 1, None)], bad), "weight")
        self.assertEqual(self.fault([(0, 0, (1, 1))], bad), "bit")

    def test_many_papers(self):
        random = Random(509)
        faults = {"bit": 0, None: 0}
        for code in some_codes(510, 100, 5, 3):
            paper = [(number, bit, ratio(Fraction(random.randint(1, 5), random.randint(1, 3))))
                     for number, check in enumerate(code.checks) for bit in check if random.random() < 0.3]
            prices = some_prices(random, code, 9)
            told = sole_paper_fault(code, prices, paper)
            self.assertEqual(told, None if min(sums_by_hand(code, prices, paper)) > 0 else "bit")
            faults[told] += 1
            if told is None:
                self.assertIsNone(zero_sole(code, prices))
        self.assertGreater(min(faults.values()), 5)


if __name__ == "__main__":
    unittest.main()
