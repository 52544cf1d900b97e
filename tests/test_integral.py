"""Tests of letbychecks.integral: [7.10]."""

import unittest
from random import Random

from letbychecks.cheapest import cheapest_let, is_sole
from letbychecks.codes import Code
from letbychecks.corners import corner_prices, corners_of
from letbychecks.errors import TooMany
from letbychecks.integral import FooledAt, all_right, broken_corners
from letbychecks.verdicts import verdict_at
from letbychecks.webrings import web_ring
from tests.helpers import FIVE, HALF_ROW, Raises, corners_by_hand, fractions, let_rules, lots_of, ratios, some_codes
from tests.helpers import some_prices, sums_by_hand

THREE = Code(3, [(0, 1), (0, 2), (0, 1, 2)])
RING = Code(3, [(0, 1), (1, 2), (0, 2)])
SIX = Code(6, [(0, 1, 2), (0, 3, 4), (1, 3, 5), (2, 4, 5)])
TWO_RINGS = Code(6, [(0, 1), (0, 1, 2), (2, 3), (3, 4, 5), (4, 5)])


def codes():
    """Codes of 1 to 6 bits: by chance, of ties, ringless ones and others at the edges."""
    return some_codes(721, 60, 6, 5) + [
        FIVE, THREE, RING, SIX, TWO_RINGS, Code(1, []), Code(1, [(0,)]), Code(6, []), Code(6, [tuple(range(6))]),
        Code(6, [(bit, bit + 1) for bit in range(5)]), Code(6, [lot for lot in lots_of(range(6)) if lot])]


def is_whole_row(row):
    """Whether all shares are 0 or 1."""
    return all(share in ((0, 1), (1, 1)) for share in row)


class Broken(Raises, unittest.TestCase):
    def test_small_codes_by_all_choices_of_rules(self):
        for code in some_codes(722, 40, 4, 3) + [THREE, RING]:
            if len(let_rules(code)) < 19:
                told = [row for row in corners_by_hand(code) if not is_whole_row(row)]
                self.assertEqual(broken_corners(code), tuple(told), code.checks)

    def test_the_corners_that_are_not_whole(self):
        for code in codes():
            broken = broken_corners(code)
            self.assertEqual(broken, tuple(row for row in corners_of(code) if not is_whole_row(row)))
            shares = [fractions(row) for row in broken]
            self.assertEqual(shares, sorted(shares))
            self.assertEqual({type(broken)} | {type(row) for row in broken}, {tuple})

    def test_plain_ones(self):
        self.assertEqual(broken_corners(FIVE), (HALF_ROW,))
        self.assertEqual(broken_corners(THREE), (ratios("2/3", "2/3", "2/3"),))
        self.assertEqual(broken_corners(RING), ())
        self.assertEqual(broken_corners(Code(1, [])), ())
        self.assertEqual(broken_corners(TWO_RINGS), (ratios("1/2", "1/2", 1, 1, "1/2", "1/2"),))
        self.assertGreater(len(broken_corners(Code(6, [(0, 1, 2), (0, 1, 3), (2, 3, 4), (2, 4, 5), (1, 5)]))), 1)

    def test_more_than_six_bits(self):
        for call in (broken_corners, all_right):
            self.fails(TooMany, [6], call, Code(7, []))
            self.fails(TooMany, [6], call, Code(10, [(0, 1)]))


class AllRight(unittest.TestCase):
    def test_the_first_broken_corner_and_its_own_prices(self):
        told = {True: 0, False: 0}
        for code in codes():
            fooled = all_right(code)
            told[fooled is None] += 1
            if fooled is None:
                self.assertEqual(broken_corners(code), ())
                continue
            self.assertIs(type(fooled), FooledAt)
            self.assertEqual(fooled.corner, broken_corners(code)[0])
            self.assertEqual(fooled.prices, corner_prices(code, fooled.corner))
            self.assertEqual(verdict_at(code, fooled.prices), "fooled")
            self.assertTrue(is_sole(code, fooled.prices))
            self.assertEqual(cheapest_let(code, fooled.prices).row, fooled.corner)
        self.assertGreater(min(told.values()), 5)

    def test_right_codes_are_right_at_all_prices(self):
        random = Random(723)
        for code in codes():
            if all_right(code) is None:
                for _ in range(4):
                    self.assertEqual(verdict_at(code, some_prices(random, code)), "right")

    def test_ringless_codes(self):
        ringless = [code for code in codes() + some_codes(724, 200, 6, 3) if web_ring(code) is None]
        self.assertGreater(len(ringless), 30)
        for code in ringless:
            self.assertIsNone(all_right(code))

    def test_all_sum_checks(self):
        for code in codes():
            full = Code(code.bits, sums_by_hand(code))
            self.assertIsNone(all_right(full))
            self.assertEqual(broken_corners(full), ())

    def test_example(self):
        fooled = all_right(FIVE)
        self.assertEqual((fooled.corner, fooled.prices), (HALF_ROW, (0, 0, -5, 0, 0)))
        self.assertIsNone(all_right(RING))
        self.assertIsNone(all_right(Code(6, [])))
        self.assertEqual(all_right(THREE).corner, ratios("2/3", "2/3", "2/3"))


if __name__ == "__main__":
    unittest.main()
