"""Tests of letbychecks.corners: [7.4], [7.5], [7.6], [7.7], [7.8], [7.9], [7.11]."""

import unittest
from fractions import Fraction
from random import Random

from letbychecks.cheapest import cheapest_let, share_range
from letbychecks.codes import Code
from letbychecks.corners import all_neighbours, cheapest_corners, check_corner, corner_parts, corner_prices, corners_of
from letbychecks.corners import neighbours_of, parts_fault, slopes_at, walk_down
from letbychecks.errors import BadPrices, BadRow, NotCorner, NotLet, TooMany
from letbychecks.peeling import peel_erased
from letbychecks.rays import all_rays
from letbychecks.turned import turned_row
from letbychecks.verdicts import verdict_at
from tests.helpers import FIVE, HALF_ROW, WRONG_PRICES, Raises, blend_by_hand, corners_by_hand, digit_costs
from tests.helpers import fault_by_hand, fractions, grid_rows, is_corner_by_hand, let_rules, lots_of, rank_by_hand, ratio
from tests.helpers import ratios, some_codes, some_prices, tight_by_hand, words_by_hand

THREE = Code(3, [(0, 1), (0, 2), (0, 1, 2)])
RING = Code(3, [(0, 1), (1, 2), (0, 2)])
SIX = Code(6, [(0, 1, 2), (0, 3, 4), (1, 3, 5), (2, 4, 5)])
FULL = Code(6, [lot for lot in lots_of(range(6)) if lot])
WHOLE = Code(6, [tuple(range(6))])
WIDE = Code(7, [(0, 1)])
ORIGIN = ratios(0, 0, 0, 0, 0)
WRONG_ROWS = ((None, -1), ((), -1), (ORIGIN[:4], -1), ("00000", -1), (ORIGIN[:4] + (0,), 4),
              (((0, 1), (3, 2)) + (None,) * 3, 1), ([[0, 1], (0, 1), (0, 1), (0, 1), (0, 1)], 0))
NO_ROWS = tuple(row for row, _ in WRONG_ROWS)


def small_codes():
    """Codes of at most 4 bits whose corners can be told by all choices of rules."""
    return [code for code in some_codes(711, 40, 4, 3) if len(let_rules(code)) < 19] + [
        RING, Code(1, []), Code(1, [(0,)]), Code(2, []), Code(2, [(0, 1)] * 3), Code(3, [(1,), (0, 1, 2)]), THREE]


def codes():
    """Codes of 1 to 6 bits: by chance, and those at the edges."""
    return some_codes(712, 40, 6, 4) + [FIVE, RING, THREE, SIX, WHOLE, Code(6, []), Code(1, []), Code(1, [(0,)]),
                                        Code(4, [(0, 1, 2, 3)] * 4), Code(6, [(0, 1, 2, 3, 4), (5,)])]


def some_let_row(random, corners):
    """An average by chance of some corners."""
    chosen = random.sample(corners, random.randint(1, min(len(corners), 9)))
    weights = [random.randint(1, 5) for _ in chosen]
    weights = [Fraction(weight, sum(weights)) for weight in weights]
    return ratios(*blend_by_hand([fractions(row) for row in chosen], weights))


class Slopes(Raises, unittest.TestCase):
    def test_chance(self):
        random = Random(713)
        for code in codes():
            corners = corners_of(code)
            for row in [some_let_row(random, corners) for _ in range(4)] + random.sample(corners, min(3, len(corners))):
                slopes = slopes_at(code, list(row))
                self.assertEqual(slopes, tuple(sorted(tight_by_hand(code, row))))
                self.assertEqual(len(set(slopes)), len(slopes))
                self.assertEqual({type(slopes)} | {type(slope) for slope in slopes}, {tuple})

    def test_plain_ones(self):
        self.assertEqual(slopes_at(Code(1, []), ((1, 2),)), ())
        self.assertEqual(slopes_at(Code(1, []), ((0, 1),)), ((-1,),))
        self.assertEqual(slopes_at(Code(1, []), ((1, 1),)), ((1,),))
        self.assertEqual(slopes_at(Code(1, [(0,), (0,)]), ((0, 1),)), ((-1,), (1,)))
        self.assertEqual(slopes_at(Code(2, [(0, 1)] * 3), ratios("1/2", "1/2")), ((-1, 1), (1, -1)))
        self.assertEqual(slopes_at(FIVE, HALF_ROW),
                         ((-1, -1, 1, 0, 0), (-1, 1, 0, 0, 0), (0, 0, 0, -1, 1), (0, 0, 0, 1, -1), (0, 0, 1, -1, -1),
                          (0, 0, 1, 0, 0), (0, 0, 1, 1, 1), (1, -1, 0, 0, 0), (1, 1, 1, 0, 0)))

    def test_errors_in_turn(self):
        for row, place in WRONG_ROWS:
            self.fails(BadRow, [place], slopes_at, FIVE, row)
        self.fails(NotLet, [0, (0,)], slopes_at, FIVE, ratios(1, 0, 0, 0, 0))
        self.fails(TooMany, [6], slopes_at, WIDE, ratios(1, 0, 0, 0, 0, 0, 0))
        self.fails(BadRow, [-1], slopes_at, WIDE, ORIGIN)


class Corners(Raises, unittest.TestCase):
    def test_by_all_choices_of_rules(self):
        for code in small_codes():
            self.assertEqual(list(corners_of(code)), corners_by_hand(code), code.checks)

    def test_each_is_a_corner(self):
        for code in codes():
            corners = corners_of(code)
            shares = [fractions(row) for row in corners]
            self.assertEqual(shares, sorted(shares))
            self.assertEqual(len(set(corners)), len(corners))
            self.assertEqual({type(corners)} | {type(row) for row in corners}, {tuple})
            for row in Random(714).sample(corners, min(12, len(corners))):
                self.assertTrue(is_corner_by_hand(code, row))
            for word in words_by_hand(code):
                self.assertIn(ratios(*word), corners)
            whole = [row for row in corners if all(share[1] == 1 for share in row)]
            self.assertEqual(whole, [ratios(*word) for word in words_by_hand(code)])

    def test_none_lacks(self):
        random = Random(715)
        for code in codes() + [FULL]:
            for most in (1, 9):
                prices = some_prices(random, code, most)
                self.assertIn(cheapest_let(code, prices).row, corners_of(code))

    def test_plain_ones(self):
        self.assertEqual(corners_of(FIVE), tuple(sorted([ratios(*word) for word in words_by_hand(FIVE)] + [HALF_ROW],
                                                        key=fractions)))
        self.assertEqual(corners_of(FIVE)[2], HALF_ROW)
        self.assertEqual(corners_of(RING), (ratios(0, 0, 0), ratios(1, 1, 1)))
        self.assertEqual(corners_of(THREE), (ratios(0, 0, 0), ratios("2/3", "2/3", "2/3")))
        self.assertEqual(corners_of(FULL), (ratios(0, 0, 0, 0, 0, 0),))
        self.assertEqual(len(corners_of(Code(6, []))), 64)
        self.assertEqual(len(corners_of(WHOLE)), 32)
        self.assertEqual(corners_of(Code(1, [(0,)])), (ratios(0),))

    def test_codes_with_all_sum_checks(self):
        code = Code(6, [(0, 1, 2), (2, 3, 4), (0, 1, 3, 4), (4, 5), (2, 3, 5), (0, 1, 3, 5), (0, 1, 2, 4, 5)])
        self.assertEqual(corners_of(code), tuple(ratios(*word) for word in words_by_hand(code)))

    def test_check_corner(self):
        random = Random(716)
        told = {True: 0, False: 0}
        for code in some_codes(717, 40, 4, 3) + [FIVE, RING]:
            corners = corners_of(code)
            for row in random.sample(grid_rows(code.bits, 2), min(8, 3 ** code.bits)) + list(corners[:4]):
                told[row in corners] += 1
                if row in corners:
                    self.assertEqual(check_corner(code, list(row)), row)
                    self.assertIs(type(check_corner(code, list(row))), tuple)
                else:
                    self.fails(NotCorner, [row], check_corner, code, list(row))
        self.assertGreater(min(told.values()), 50)

    def test_errors_in_turn(self):
        calls = (check_corner, corner_prices, neighbours_of, lambda code, row: walk_down(code, (0,) * code.bits, row))
        for call in calls:
            for row, place in WRONG_ROWS:
                self.fails(BadRow, [place], call, FIVE, row)
            for row in (ratios(1, 0, 0, 0, 0), ratios("1/2", "1/2", 0, 0, 0), ratios(1, 1, 1, 1, 1)):
                self.fails(NotCorner, [row], call, FIVE, row)
                self.fails(NotCorner, [row], call, FIVE, list(row))
            self.fails(TooMany, [6], call, WIDE, ratios(1, 0, 0, 0, 0, 0, 0))
            self.fails(BadRow, [-1], call, WIDE, ORIGIN)
        self.fails(TooMany, [6], corners_of, WIDE)
        self.fails(TooMany, [6], corners_of, Code(10, [tuple(range(10))] * 63))


class Prices(unittest.TestCase):
    def test_sole_cheapest(self):
        """[7.6]: all other corners cost more, by just the sum of their slacks."""
        random = Random(718)
        for code in codes():
            corners = corners_of(code)
            for corner in random.sample(corners, min(6, len(corners))):
                prices = corner_prices(code, list(corner))
                tight = tight_by_hand(code, corner)
                self.assertEqual(prices, tuple(-sum(slope[bit] for slope in tight) for bit in range(code.bits)))
                self.assertTrue(type(prices) is tuple and all(-99 <= price <= 99 for price in prices))
                rules = [(slope, bound) for slope, bound in let_rules(code)
                         if digit_costs(slope, corner) == bound]
                for row in random.sample(corners, min(10, len(corners))):
                    more = digit_costs(prices, row) - digit_costs(prices, corner)
                    self.assertEqual(more, sum(bound - digit_costs(slope, row) for slope, bound in rules))
                    self.assertEqual(more > 0, row != corner)

    def test_plain_ones(self):
        self.assertEqual(corner_prices(FIVE, HALF_ROW), (0, 0, -5, 0, 0))
        self.assertEqual(corner_prices(Code(2, []), ratios(0, 1)), (1, -1))
        self.assertEqual(corner_prices(Code(1, [(0,)]), ratios(0)), (0,))
        self.assertEqual(corner_prices(FULL, ratios(0, 0, 0, 0, 0, 0)),
                         tuple(-sum(slope[bit] for slope in tight_by_hand(FULL, ratios(*[0] * 6))) for bit in range(6)))


class Neighbours(unittest.TestCase):
    def by_hand(self, code, corners, corner):
        """The corners that have slopes of rank n - 1 in common with this one."""
        mine = set(tight_by_hand(code, corner))
        return tuple(other for other in corners if other != corner
                     and rank_by_hand(sorted(mine & set(tight_by_hand(code, other)))) == code.bits - 1)

    def test_by_ranks(self):
        random = Random(719)
        for code in small_codes() + some_codes(720, 12, 5, 3) + [FIVE, SIX]:
            corners = corners_of(code)
            told = all_neighbours(code)
            self.assertEqual(len(told), len(corners))
            for place in random.sample(range(len(corners)), min(3, len(corners))):
                near = self.by_hand(code, corners, corners[place])
                self.assertEqual(told[place], near)
                self.assertEqual(neighbours_of(code, list(corners[place])), near)

    def test_both_ways(self):
        for code in codes():
            corners = corners_of(code)
            near = dict(zip(corners, all_neighbours(code)))
            for corner in corners:
                self.assertEqual(list(near[corner]), sorted(set(near[corner]), key=fractions))
                self.assertNotIn(corner, near[corner])
                self.assertTrue(all(corner in near[other] for other in near[corner]))
            self.assertEqual({type(rows) for rows in near.values()}, {tuple})

    def test_plain_ones(self):
        zero, half = ratios(0, 0, 0, 0, 0), HALF_ROW
        self.assertEqual(neighbours_of(FIVE, zero), (ratios(0, 0, 0, 1, 1), half, ratios(1, 1, 0, 0, 0)))
        self.assertEqual(neighbours_of(FIVE, half), tuple(ratios(*word) for word in words_by_hand(FIVE)))
        self.assertEqual(neighbours_of(Code(1, []), ratios(0)), (ratios(1),))
        self.assertEqual(neighbours_of(Code(1, [(0,)]), ratios(0)), ())
        self.assertEqual(all_neighbours(Code(1, [(0,)])), ((),))
        self.assertEqual(all_neighbours(RING), ((ratios(1, 1, 1),), (ratios(0, 0, 0),)))
        self.assertEqual({len(rows) for rows in all_neighbours(Code(6, []))}, {6})

    def test_local_least_is_least(self):
        random = Random(721)
        for code in codes()[:25] + [SIX, FIVE]:
            corners = corners_of(code)
            prices = some_prices(random, code, 3)
            least = Fraction(*cheapest_let(code, prices).price)
            for corner, near in zip(corners, all_neighbours(code)):
                cost = digit_costs(prices, corner)
                if all(cost <= digit_costs(prices, other) for other in near):
                    self.assertEqual(cost, least)

    def test_turned_by_words(self):
        """[7.11]"""
        random = Random(722)
        for code in some_codes(723, 20, 6, 4) + [FIVE, SIX]:
            corners = corners_of(code)
            near = dict(zip(corners, all_neighbours(code)))
            words = words_by_hand(code)
            word = random.choice(words)
            for corner in random.sample(corners, min(8, len(corners))):
                turned = turned_row(code, corner, word)
                self.assertIn(turned, corners)
                self.assertEqual({turned_row(code, other, word) for other in near[corner]}, set(near[turned]))
            self.assertEqual(len({len(near[ratios(*word)]) for word in words}), 1)

    def test_neighbours_of_zeros(self):
        """[7.11]: the rays, and which erased lots are mended."""
        random = Random(724)
        for code in some_codes(725, 40, 6, 4) + [FIVE, SIX]:
            near = neighbours_of(code, ratios(*[0] * code.bits))
            directions = {tuple(share / sum(fractions(row)) for share in fractions(row)) for row in near}
            rays = {tuple(Fraction(entry, sum(ray)) for entry in ray) for ray in all_rays(code)}
            self.assertEqual(directions, rays)
            for lot in random.sample(lots_of(range(code.bits)), min(8, 1 << code.bits)):
                held = any(all(share == (0, 1) for bit, share in enumerate(row) if bit not in lot) for row in near)
                self.assertEqual(peel_erased(code, lot).ended, not held)


class Walks(Raises, unittest.TestCase):
    def test_step_by_step(self):
        random = Random(726)
        lengths = set()
        for code in codes():
            corners = corners_of(code)
            near = dict(zip(corners, all_neighbours(code)))
            for most in (0, 1, 9):
                prices = some_prices(random, code, most)
                start = random.choice(corners)
                way = walk_down(code, list(prices), list(start))
                told = [start]
                while True:
                    cost = digit_costs(prices, told[-1])
                    less = [row for row in near[told[-1]] if digit_costs(prices, row) < cost]
                    if not less:
                        break
                    told.append(min(less, key=lambda row: (digit_costs(prices, row), fractions(row))))
                self.assertEqual(way, tuple(told))
                self.assertEqual(digit_costs(prices, way[-1]), Fraction(*cheapest_let(code, prices).price))
                lengths.add(len(way))
        self.assertGreaterEqual(lengths, {1, 2, 3})

    def test_first_of_equal_ones(self):
        self.assertEqual(walk_down(Code(2, []), (-1, -1), ratios(0, 0)), (ratios(0, 0), ratios(0, 1), ratios(1, 1)))
        self.assertEqual(walk_down(Code(2, []), (-1, -2), ratios(1, 0)), (ratios(1, 0), ratios(1, 1)))
        self.assertEqual(walk_down(FIVE, (0,) * 5, HALF_ROW), (HALF_ROW,))
        self.assertEqual(walk_down(FIVE, (0, 0, -1, 0, 0), ORIGIN), (ORIGIN, HALF_ROW))

    def test_errors_in_turn(self):
        for prices, place in WRONG_PRICES:
            self.fails(BadPrices, [place], walk_down, FIVE, prices, None)
            self.fails(BadPrices, [place], cheapest_corners, FIVE, prices)
        self.fails(TooMany, [6], cheapest_corners, WIDE, (0,) * 7)
        self.fails(BadPrices, [-1], cheapest_corners, WIDE, (0,) * 6)
        self.fails(BadPrices, [6], walk_down, WIDE, (0,) * 6 + (100,), None)
        self.fails(TooMany, [6], neighbours_of, WIDE, ratios(*[0] * 7))
        self.fails(TooMany, [6], all_neighbours, WIDE)


class CheapestCorners(unittest.TestCase):
    def test_chance(self):
        random = Random(727)
        ties = 0
        for code in codes() + [FULL]:
            corners = corners_of(code)
            for most in (0, 1, 9):
                prices = some_prices(random, code, most)
                price, cheapest = cheapest_corners(code, list(prices))
                self.assertEqual(price, cheapest_let(code, prices).price)
                self.assertEqual(cheapest, tuple(row for row in corners if digit_costs(prices, row) == Fraction(*price)))
                right = any(all(share[1] == 1 for share in row) for row in cheapest)
                self.assertEqual(verdict_at(code, prices), "right" if right else "fooled")
                ties += len(cheapest) > 1
                bit = random.randrange(code.bits)
                span = share_range(code, prices, bit)
                shares = [fractions(row)[bit] for row in cheapest]
                self.assertEqual((span.low.share, span.high.share), (ratio(min(shares)), ratio(max(shares))))
        self.assertGreater(ties, 30)

    def test_plain_ones(self):
        self.assertEqual(cheapest_corners(FIVE, (0, 0, -1, 0, 0)), ((-1, 1), (HALF_ROW,)))
        self.assertEqual(cheapest_corners(FIVE, (0,) * 5), ((0, 1), corners_of(FIVE)))
        self.assertEqual(cheapest_corners(THREE, (-1, -1, -1)), ((-2, 1), (ratios("2/3", "2/3", "2/3"),)))


class Parts(Raises, unittest.TestCase):
    def parts_judged(self, code, corners, row):
        """Unlike corners, ascending, at most n + 1, and weights above 0 with the sum 1, that come to the row."""
        parts = corner_parts(code, list(row))
        chosen = [corner for corner, _ in parts]
        self.assertEqual(chosen, [corner for corner in corners if corner in chosen])
        self.assertLessEqual(len(parts), code.bits + 1)
        weights = [Fraction(*weight) for _, weight in parts]
        self.assertEqual((sum(weights), [ratio(weight) for weight in weights]), (1, [weight for _, weight in parts]))
        self.assertGreater(min(weights), 0)
        self.assertEqual(ratios(*blend_by_hand([fractions(corner) for corner in chosen], weights)), row)
        self.assertEqual({type(parts)} | {type(part) for part in parts}, {tuple})
        self.assertIsNone(parts_fault(code, row, parts))
        self.assertIsNone(parts_fault(code, list(row), [[list(corner), weight] for corner, weight in parts]))

    def test_averages(self):
        random = Random(728)
        for code in codes() + [FULL]:
            corners = corners_of(code)
            for _ in range(3):
                self.parts_judged(code, corners, some_let_row(random, list(corners)))
            corner = random.choice(corners)
            self.assertEqual(corner_parts(code, corner), ((corner, (1, 1)),))

    def test_all_small_rows(self):
        for code in small_codes()[::3]:
            corners = corners_of(code)
            for row in grid_rows(code.bits, 4 if code.bits < 4 else 2):
                fault = fault_by_hand(code, row)
                if fault is None:
                    self.parts_judged(code, corners, row)
                else:
                    self.fails(NotLet, list(fault), corner_parts, code, row)

    def test_average_of_all_corners(self):
        for code in (SIX, WHOLE, Code(6, []), FIVE):
            corners = corners_of(code)
            weights = [Fraction(1, len(corners))] * len(corners)
            self.parts_judged(code, corners, ratios(*blend_by_hand([fractions(row) for row in corners], weights)))

    def test_great_bottoms(self):
        bottom = 10 ** 58 + 7
        self.parts_judged(FIVE, corners_of(FIVE), ratios(Fraction(1, bottom), Fraction(1, bottom), 0,
                                                         Fraction(2, bottom), Fraction(2, bottom)))

    def test_errors_in_turn(self):
        for row, place in WRONG_ROWS:
            self.fails(BadRow, [place], corner_parts, FIVE, row)
            self.fails(BadRow, [place], parts_fault, FIVE, row, None)
        self.fails(TooMany, [6], corner_parts, WIDE, ratios(1, 0, 0, 0, 0, 0, 0))
        self.fails(TooMany, [6], parts_fault, WIDE, ratios(1, 0, 0, 0, 0, 0, 0), None)
        self.fails(NotLet, [0, (0,)], corner_parts, FIVE, ratios(1, 0, 0, 0, 0))


class PartsFault(unittest.TestCase):
    def setUp(self):
        self.corners = corners_of(FIVE)
        self.row = ratios("1/2", "1/2", 0, 0, 0)

    def fault(self, *parts):
        return parts_fault(FIVE, self.row, parts)

    def test_right_ones(self):
        zero, _, _, high, _ = self.corners
        self.assertIsNone(self.fault((zero, (1, 2)), (high, (1, 2))))
        self.assertIsNone(parts_fault(FIVE, HALF_ROW, [[list(HALF_ROW), (1, 1)]]))
        self.assertIsNone(parts_fault(FIVE, ORIGIN, ((ORIGIN, (1, 1)),)))

    def test_corner(self):
        for parts in (None, 5, "ab", {}, True, object()):
            self.assertEqual(parts_fault(FIVE, self.row, parts), "corner")
        good = (self.corners[0], (1, 1))
        for part in (None, 5, (), "ab", (ORIGIN,), (ORIGIN, (1, 1), (1, 1)), ("00000", (1, 1)), (5, (1, 1)),
                     (ratios(1, 0, 0, 0, 0), (1, 1)), (self.row, (1, 1)), (ratios(1, 1, 1, 1, 1), (1, 1)),
                     *[(row, (1, 1)) for row in NO_ROWS]):
            self.assertEqual(self.fault(part), "corner", part)
            self.assertEqual(self.fault(good, good, (ORIGIN, None), part), "corner", part)

    def test_order(self):
        for first, low in enumerate(self.corners):
            for second, high in enumerate(self.corners):
                told = self.fault((low, (1, 5)), [list(high), (1, 5)])
                self.assertEqual(told, "share" if first < second else "order")
        self.assertEqual(self.fault((self.corners[1], None), (self.corners[0], None)), "order")

    def test_weight(self):
        zero, _, _, high, _ = self.corners
        for weight in ((0, 1), (-1, 2), [1, 2], 1, None, (2, 4), (True, 2), 0.5, "1", (1,), True):
            self.assertEqual(self.fault((zero, (1, 2)), (high, weight)), "weight")
            self.assertEqual(self.fault((zero, weight), (high, (1, 2))), "weight")

    def test_many(self):
        code = Code(2, [])
        corners = corners_of(code)
        half = ratios("1/2", "1/2")
        quarter = [(corner, (1, 4)) for corner in corners]
        self.assertEqual(parts_fault(code, half, quarter), "many")
        self.assertEqual(parts_fault(code, ratios(0, 0), [(corner, (1, 9)) for corner in corners]), "many")
        self.assertEqual(parts_fault(code, half, quarter[:3] + [(corners[3], None)]), "weight")
        self.assertIsNone(parts_fault(code, half, [(corners[0], (1, 2)), (corners[3], (1, 2))]))
        self.assertIsNone(parts_fault(code, ratios("1/3", "1/3"), [(corner, (1, 3)) for corner in corners[:3]]))

    def test_share(self):
        zero, _, half, high, _ = self.corners
        self.assertEqual(self.fault(), "share")
        self.assertEqual(parts_fault(FIVE, self.row, []), "share")
        self.assertEqual(self.fault((zero, (1, 2)), (high, (1, 3))), "share")
        self.assertEqual(self.fault((zero, (2, 3)), (high, (1, 2))), "share")
        self.assertEqual(self.fault((zero, (1, 3)), (high, (2, 3))), "share")
        self.assertEqual(self.fault((half, (1, 1))), "share")
        self.assertEqual(parts_fault(FIVE, ORIGIN, ((zero, (1, 2)),)), "share")

    def test_rows_that_are_not_let(self):
        zero, _, _, high, _ = self.corners
        self.assertEqual(parts_fault(FIVE, ratios(1, 0, 0, 0, 0), ((zero, (1, 2)), (high, (1, 2)))), "share")
        self.assertEqual(parts_fault(FIVE, ratios(1, 0, 0, 0, 0), None), "corner")


if __name__ == "__main__":
    unittest.main()
