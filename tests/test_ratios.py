"""Tests of letbychecks.ratios: [1.1]."""

import unittest
from fractions import Fraction
from math import gcd

from letbychecks import ratios
from letbychecks.errors import BadRatio, DividedByNought
from letbychecks.ratios import common_divisor, is_ratio, is_sequence, is_share, is_whole, make_ratio
from letbychecks.ratios import ratio_compare, ratio_minus, ratio_over, ratio_plus, ratio_sum, ratio_times
from tests.helpers import Raises, ratio

GREAT = 10 ** 18
LONG = 10 ** 59 + 7
NUMBERS = [Fraction(top, bottom) for top in (-GREAT, -7, -1, 0, 1, 2, 6, GREAT, LONG, -LONG)
           for bottom in (1, 2, 3, 12, GREAT - 1, LONG + 4)]


class Kinds(unittest.TestCase):
    def test_the_three(self):
        self.assertEqual((ratios.ZERO, ratios.ONE, ratios.HALF), ((0, 1), (1, 1), (1, 2)))

    def test_whole(self):
        for thing in (0, 1, -1, GREAT, -GREAT, LONG):
            self.assertIs(is_whole(thing), True)
        for thing in (True, False, None, 1.0, "1", (1, 1), [1], b"1", Fraction(1)):
            self.assertIs(is_whole(thing), False)
            self.assertIs(is_whole(thing, 0, 5), False)

    def test_bounds(self):
        cases = [((3, 4, 9), False), ((4, 4, 9), True), ((9, 4, 9), True), ((10, 4, 9), False), ((3, 4), False),
                 ((4, 4), True), ((GREAT, 4), True), ((9, None, 9), True), ((10, None, 9), False),
                 ((-GREAT, None, 9), True), ((5, None, None), True), ((0, 0, 0), True), ((-1, 0, 0), False),
                 ((1, 0, 0), False), ((0, 1), False), ((1, None, 0), False)]
        for arguments, told in cases:
            self.assertIs(is_whole(*arguments), told, arguments)
        self.assertIs(is_whole(3, high=3), True)
        self.assertIs(is_whole(3, low=4), False)

    def test_sequence(self):
        for thing in ([], (), [1], (1, 2)):
            self.assertIs(is_sequence(thing), True)
        for thing in ("12", b"12", {}, set(), None, 1, range(3), iter([])):
            self.assertIs(is_sequence(thing), False)

    def test_ratio(self):
        for thing in ((0, 1), (1, 1), (-3, 2), (7, 3), (GREAT, GREAT - 1), (LONG, 1)):
            self.assertIs(is_ratio(thing), True)
        wrong = ([1, 2], (2, 4), (0, 2), (1, -2), (1, 0), (0, 0), (1,), (1, 2, 3), (), 1, None, (True, 1), (1, True),
                 (1.0, 2), ("1", 2), (-2, -4), Fraction(1, 2), (None, 1), ((1, 2), 1), (1, False))
        for thing in wrong:
            self.assertIs(is_ratio(thing), False, thing)
            self.assertIs(is_share(thing), False, thing)

    def test_share(self):
        for thing in ((0, 1), (1, 1), (1, 2), (GREAT - 1, GREAT)):
            self.assertIs(is_share(thing), True)
        for thing in ((-1, 2), (3, 2), (2, 1), (-1, 1), (GREAT, GREAT - 1)):
            self.assertIs(is_share(thing), False)


class Sums(Raises, unittest.TestCase):
    def test_common_divisor(self):
        for one in (0, 1, -1, 6, -6, 15, 10 ** 18, -(10 ** 18), LONG * 12):
            for other in (0, 1, 4, -4, 10, -GREAT, LONG * 18):
                self.assertEqual(common_divisor(one, other), gcd(one, other))
        self.assertEqual(common_divisor(0, 0), 0)
        self.assertEqual(common_divisor(-6, -4), 2)
        self.assertEqual(common_divisor(0, -5), 5)

    def test_make_ratio(self):
        cases = [((4, 6), (2, 3)), ((4, -6), (-2, 3)), ((-4, -6), (2, 3)), ((0, -5), (0, 1)), ((5,), (5, 1)),
                 ((-5,), (-5, 1)), ((0,), (0, 1)), ((GREAT, -GREAT), (-1, 1)), ((LONG * 3, LONG * 6), (1, 2))]
        for arguments, told in cases:
            self.assertEqual(make_ratio(*arguments), told)
            self.assertIs(type(make_ratio(*arguments)), tuple)
        self.assertEqual(make_ratio(bottom=4, top=2), (1, 2))

    def test_wrong_tops_and_bottoms(self):
        for thing in (True, False, None, 1.0, "1", (1, 2)):
            self.fails(BadRatio, ["top"], make_ratio, thing)
            self.fails(BadRatio, ["top"], make_ratio, thing, 0)
            self.fails(BadRatio, ["top"], make_ratio, thing, thing)
            self.fails(BadRatio, ["bottom"], make_ratio, 1, thing)
        self.fails(BadRatio, ["bottom"], make_ratio, 1, 0)
        self.fails(BadRatio, ["bottom"], make_ratio, 0, 0)

    def test_the_four_rules(self):
        for one in NUMBERS:
            for other in NUMBERS[::7]:
                mine, yours = ratio(one), ratio(other)
                self.assertEqual(ratio_plus(mine, yours), ratio(one + other))
                self.assertEqual(ratio_minus(mine, yours), ratio(one - other))
                self.assertEqual(ratio_times(mine, yours), ratio(one * other))
                if other != 0:
                    self.assertEqual(ratio_over(mine, yours), ratio(one / other))
                self.assertEqual(ratio_compare(mine, yours), (one > other) - (one < other))

    def test_division_by_zero(self):
        self.fails(DividedByNought, [], ratio_over, (1, 2), (0, 1))
        self.fails(DividedByNought, [], ratio_over, (0, 1), (0, 1))
        self.assertEqual(ratio_over((0, 1), (-1, 2)), (0, 1))
        self.assertEqual(ratio_over((1, 2), (-1, 3)), (-3, 2))

    def test_sum(self):
        self.assertEqual(ratio_sum([]), (0, 1))
        self.assertEqual(ratio_sum(()), (0, 1))
        self.assertEqual(ratio_sum([(1, 2), (1, 3), (1, 6)]), (1, 1))
        self.assertEqual(ratio_sum(tuple(ratio(number) for number in NUMBERS)), ratio(sum(NUMBERS)))


if __name__ == "__main__":
    unittest.main()
