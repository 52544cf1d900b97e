"""Tests of letbychecks.rays: [5.4], [5.5], and of [5.10] what it says of rays."""

import unittest
from fractions import Fraction
from itertools import combinations, product
from math import gcd
from random import Random

from letbychecks.codes import Code
from letbychecks.cones import zero_sole
from letbychecks.errors import BadCone, NotCone, TooMany
from letbychecks.rays import all_rays, bars_from, ray_parts
from tests.helpers import FIVE, Raises, cone_rules_by_hand, digit_costs, is_ray_by_hand, keeps_rules, lots_of
from tests.helpers import rank_by_hand, ratio, some_codes, some_prices, sums_by_hand, words_by_hand

RING = Code(3, [(0, 1), (1, 2), (0, 2)])
BARE = Code(3, [(0,), (0, 1), (0, 1, 2)])
SEVEN = Code(7, [(0, 1, 2), (0, 3, 4), (1, 3, 5), (2, 3, 6)])
GREAT = 10 ** 57


def rays_by_hand(code):
    """All rays, ascending, by all choices of n - 1 rules: for small codes."""
    rules = cone_rules_by_hand(code)
    found = set()
    for chosen in combinations(rules, code.bits - 1):
        if rank_by_hand(chosen) == code.bits - 1:
            row = line_by_hand(chosen, code.bits)
            for sign in (1, -1):
                turned = tuple(sign * entry for entry in row)
                if keeps_rules(rules, turned):
                    found.add(turned)
    return tuple(sorted(found))


def line_by_hand(rules, many):
    """The integers without a common divisor at which all the rules, of rank many - 1, come to 0."""
    line = []
    for place in range(many):
        rest = [[entry for other, entry in enumerate(rule) if other != place] for rule in rules]
        line.append((-1) ** place * determinant(rest))
    return tuple(entry // gcd(*line) for entry in line)


def determinant(rows):
    """The determinant by its first row."""
    if not rows:
        return 1
    return sum((-1) ** place * entry * determinant([row[:place] + row[place + 1:] for row in rows[1:]])
               for place, entry in enumerate(rows[0]) if entry)


class AllRays(Raises, unittest.TestCase):
    def test_by_all_choices_of_rules(self):
        for code in some_codes(511, 80, 4, 4) + [FIVE, RING, BARE, Code(1, []), Code(1, [(0,)]), Code(4, [])]:
            self.assertEqual(all_rays(code), rays_by_hand(code), code.checks)

    def test_each_is_a_ray(self):
        for code in some_codes(512, 40, 7, 5) + [SEVEN]:
            rays = all_rays(code)
            self.assertEqual(list(rays), sorted(set(rays)))
            self.assertEqual({type(rays)} | {type(ray) for ray in rays}, {tuple})
            self.assertTrue(all(is_ray_by_hand(code, ray) for ray in rays))

    def test_none_lacks(self):
        """[5.4]: 0 is the sole cheapest row exactly if each ray costs more than 0."""
        random = Random(513)
        told = {True: 0, False: 0}
        for code in some_codes(514, 60, 7, 5) + [SEVEN] * 10:
            rays = all_rays(code)
            for most in (1, 5):
                prices = tuple(price + random.randint(0, most) for price in some_prices(random, code, most))
                sole = all(digit_costs(prices, ray) > 0 for ray in rays)
                self.assertEqual(zero_sole(code, prices) is None, sole)
                told[sole] += 1
        self.assertGreater(min(told.values()), 20)

    def test_examples(self):
        self.assertEqual(all_rays(FIVE), ((0, 0, 0, 1, 1), (1, 1, 0, 0, 0), (1, 1, 2, 1, 1)))
        self.assertEqual(all_rays(RING), ((1, 1, 1),))
        self.assertEqual(all_rays(BARE), ())
        self.assertEqual(all_rays(Code(2, [])), ((0, 1), (1, 0)))
        self.assertEqual(all_rays(Code(3, [(0, 1, 2)])), ((0, 1, 1), (1, 0, 1), (1, 1, 0)))
        self.assertEqual(all_rays(Code(3, [(2, 1, 0)] * 3)), ((0, 1, 1), (1, 0, 1), (1, 1, 0)))
        self.assertEqual(all_rays(Code(7, [(bit,) for bit in range(7)])), ())
        self.assertEqual(all_rays(Code(7, [(bit,) for bit in range(6)])), ((0,) * 6 + (1,),))

    def test_many_checks(self):
        code = Code(7, [lot for lot in lots_of(range(7)) if len(lot) in (3, 5)])
        rays = all_rays(code)
        self.assertTrue(all(is_ray_by_hand(code, ray) for ray in rays))
        self.assertEqual(zero_sole(code, (-1,) * 7) is None, rays == ())

    def test_all_sum_checks(self):
        """[5.10]"""
        for code in some_codes(515, 60, 6, 4):
            full = Code(code.bits, sums_by_hand(code))
            ones = [{bit for bit in range(code.bits) if word[bit]} for word in words_by_hand(code)]
            least = [lot for lot in ones if lot and not any(other and other < lot for other in ones)]
            told = sorted(tuple(int(bit in lot) for bit in range(code.bits)) for lot in least)
            self.assertEqual(list(all_rays(full)), told)

    def test_too_many(self):
        self.assertEqual(len(all_rays(Code(7, []))), 7)
        for bits in (8, 10):
            self.fails(TooMany, [7], all_rays, Code(bits, [(0, 1)]))
            self.fails(TooMany, [7], ray_parts, Code(bits, [(0, 1)]), (1,) + (0,) * (bits - 1))
            self.fails(BadCone, [0], ray_parts, Code(bits, []), (-1,) * bits)


class RayParts(Raises, unittest.TestCase):
    def parts_judged(self, code, row):
        """Unlike rays, ascending, at most n, with weights above 0, that come to the row."""
        parts = ray_parts(code, row)
        rays = [ray for ray, _ in parts]
        self.assertEqual(rays, sorted(set(rays)))
        self.assertLessEqual(len(parts), code.bits)
        self.assertTrue(all(is_ray_by_hand(code, ray) for ray in rays))
        self.assertTrue(all(ratio(Fraction(*weight)) == weight and weight[0] > 0 for _, weight in parts))
        for bit, entry in enumerate(row):
            self.assertEqual(sum(Fraction(*weight) * ray[bit] for ray, weight in parts), entry)
        self.assertEqual({type(parts)} | {type(part) for part in parts}, {tuple})

    def test_rays_and_zeros(self):
        for code in (FIVE, RING, SEVEN, BARE, Code(1, [])):
            self.assertEqual(ray_parts(code, [0] * code.bits), ())
            for ray in all_rays(code):
                self.assertEqual(ray_parts(code, ray), ((ray, (1, 1)),))
                self.assertEqual(ray_parts(code, [GREAT * entry for entry in ray]), ((ray, (GREAT, 1)),))

    def test_all_small_rows(self):
        for code in some_codes(516, 30, 4, 4):
            for row in product(range(4), repeat=code.bits):
                if keeps_rules(cone_rules_by_hand(code), row):
                    self.parts_judged(code, row)

    def test_sums_of_rays(self):
        random = Random(517)
        for code in some_codes(518, 40, 7, 4) + [SEVEN] * 8:
            rays = all_rays(code)
            times = [random.choice((0, 1, 2, 5, GREAT, GREAT // 7)) for _ in rays]
            row = [sum(time * ray[bit] for time, ray in zip(times, rays)) for bit in range(code.bits)]
            self.parts_judged(code, row)

    def test_errors_in_turn(self):
        self.fails(BadCone, [-1], ray_parts, FIVE, None)
        self.fails(BadCone, [1], ray_parts, FIVE, (9, True, 0, 0, 0))
        self.fails(NotCone, [1, 2], ray_parts, FIVE, (1, 1, 3, 1, 1))
        self.fails(TooMany, [7], ray_parts, Code(8, [(0,)]), (1,) * 8)
        self.fails(NotCone, [0, 0], ray_parts, BARE, [GREAT, 0, 0])


class BarsFrom(Raises, unittest.TestCase):
    def test_by_all_lots(self):
        random = Random(519)
        for bits in (1, 2, 3, 6, 10):
            for _ in range(20):
                row = [random.choice((0, 1, 1, 2, 3, 9)) for _ in range(bits)]
                least = min(len(lot) for lot in lots_of(range(bits)) if 2 * sum(row[bit] for bit in lot) >= sum(row))
                self.assertEqual(bars_from(Code(bits, [(0,)]), row), least)

    def test_examples(self):
        self.assertEqual(bars_from(FIVE, (0,) * 5), 0)
        self.assertEqual(bars_from(FIVE, (0, 0, 0, 0, 1)), 1)
        self.assertEqual(bars_from(FIVE, (1, 1, 2, 1, 1)), 2)
        self.assertEqual(bars_from(FIVE, (1, 1, 1, 1, 1)), 3)
        self.assertEqual(bars_from(FIVE, [1, 1, 0, 0, 0]), 1)
        self.assertEqual(bars_from(Code(10, []), (1,) * 10), 5)
        self.assertEqual(bars_from(FIVE, (GREAT, GREAT - 1, 1, 0, 0)), 1)
        self.assertEqual(bars_from(FIVE, (GREAT, GREAT, 1, 0, 0)), 2)

    def test_wrong_rows(self):
        self.fails(BadCone, [-1], bars_from, FIVE, (1,) * 4)
        self.fails(BadCone, [2], bars_from, FIVE, (1, 1, -1, 1, None))
        self.fails(BadCone, [0], bars_from, FIVE, [False] * 5)


if __name__ == "__main__":
    unittest.main()
