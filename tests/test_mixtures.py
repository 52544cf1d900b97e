"""Tests of letbychecks.mixtures: [2.5], [2.6], [2.7], [2.8]."""

import unittest
from fractions import Fraction
from itertools import product
from math import lcm
from random import Random

from letbychecks.codes import Code
from letbychecks.errors import BadRow, BadRows, BadSheets, BadWeights, NoCheck, NotLet
from letbychecks.letrows import is_let, worst_lot
from letbychecks.mixtures import blend_of, even_parts, mixture_fault, mixture_of, sheets_of
from tests.helpers import FIVE, HALF_ROW, Raises, blend_by_hand, fractions, grid_rows, let_row_on, ratio, ratios
from tests.helpers import some_codes, some_row, worst_by_hand

THREE = Code(3, [(0, 1, 2)])
HALVES = ratios("1/2", "1/2", "1/2")
QUARTERS = (((0, 0, 0), (1, 4)), ((0, 1, 1), (1, 4)), ((1, 0, 1), (1, 4)), ((1, 1, 0), (1, 4)))
TEN = Code(10, [tuple(range(10))])
WRONG_ROWS = ((None, -1), ((), -1), (HALVES[:2], -1), (HALVES * 2, -1), ("000", -1), (((1, 2), 0, 1), 1),
              (((1, 2), (1, 2), [1, 2]), 2), (((3, 2), (1, 2), (1, 2)), 0), (((2, 4), True, None), 0))


class Mixtures(Raises, unittest.TestCase):
    def judged(self, code, number, row):
        """The mixture must be one, in order, with weights that are whole times L, or else times 2 L."""
        check = code.checks[number]
        mixture = mixture_of(code, number, list(row))
        self.assertIs(type(mixture), tuple)
        evens = [couple[0] for couple in mixture]
        weights = [Fraction(*couple[1]) for couple in mixture]
        for couple in mixture:
            self.assertEqual([type(couple), type(couple[0]), type(couple[1])], [tuple, tuple, tuple])
            self.assertEqual(couple[1], ratio(Fraction(*couple[1])))
        self.assertEqual(evens, sorted(set(evens)))
        self.assertTrue(all(len(even) == len(check) and sum(even) % 2 == 0 for even in evens))
        self.assertTrue(all(weight > 0 for weight in weights))
        self.assertEqual(sum(weights), 1)
        shares = [Fraction(*row[bit]) for bit in check]
        self.assertEqual(list(blend_by_hand(evens, weights)), shares)
        least = lcm(*[share.denominator for share in shares])
        times = least if least * sum(shares) % 2 == 0 else 2 * least
        self.assertTrue(all(weight * times % 1 == 0 for weight in weights))
        self.assertIsNone(mixture_fault(code, number, row, mixture))
        return times // least

    def test_all_rows_of_small_checks(self):
        times = {}
        for size, bottom in ((1, 4), (2, 6), (3, 4), (3, 5), (4, 4), (5, 2), (5, 3), (6, 2)):
            code = Code(size, [tuple(range(size))])
            for row in grid_rows(size, bottom):
                lot, excess = worst_by_hand(code.checks[0], row)
                if excess > 0:
                    self.fails(NotLet, [0, lot], mixture_of, code, 0, row)
                else:
                    times[self.judged(code, 0, row)] = True
        self.assertEqual(sorted(times), [1, 2])

    def test_ten_bits(self):
        random = Random(31)
        for _ in range(60):
            self.judged(TEN, 0, let_row_on(random, 10, TEN.checks[0], 12))
        self.judged(TEN, 0, ratios(*["1/2"] * 10))
        self.judged(TEN, 0, ratios(*["1/3"] * 9, "2/3"))
        self.judged(TEN, 0, ratios(*[1] * 10))
        self.judged(TEN, 0, ratios(*[0] * 10))

    def test_long_ratios(self):
        great = 10 ** 59
        row = ratios(*[Fraction(great // 2 + 3 * step, great + 1 + 2 * step) for step in range(10)])
        self.judged(TEN, 0, row)

    def test_rows_of_digits(self):
        for digits in product((0, 1), repeat=3):
            if sum(digits) % 2 == 0:
                self.assertEqual(mixture_of(THREE, 0, ratios(*digits)), ((digits, (1, 1)),))

    def test_one_bit(self):
        code = Code(2, [(0, 1), (1,)])
        self.assertEqual(mixture_of(code, 1, ratios("1/3", 0)), (((0,), (1, 1)),))
        self.fails(NotLet, [1, (1,)], mixture_of, code, 1, ratios("1/3", "1/3"))

    def test_let_on_this_check_alone(self):
        code = Code(4, [(3,), (0, 1, 3), (0, 2), (3, 1)])
        row = ratios("1/2", "1/3", "1/2", 1)
        for number, check in enumerate(code.checks):
            lot, excess = worst_by_hand(check, row)
            if number == 2:
                self.assertEqual(mixture_of(code, 2, row), (((0, 0), (1, 2)), ((1, 1), (1, 2))))
            else:
                self.assertGreater(excess, 0)
                self.fails(NotLet, [number, lot], mixture_of, code, number, row)

    def test_chance(self):
        random = Random(32)
        for code in some_codes(33, 80, 7, 3):
            for number, check in enumerate(code.checks):
                self.judged(code, number, let_row_on(random, code.bits, check, 6))

    def test_example(self):
        self.assertEqual(mixture_of(THREE, 0, HALVES), QUARTERS)

    def test_errors(self):
        for call in (mixture_of, lambda *given: mixture_fault(*given, None), lambda *given: even_parts(*given, None)):
            for number in (-1, 1, True, None, "0"):
                self.fails(NoCheck, [number], call, THREE, number, None)
            for row, place in WRONG_ROWS:
                self.fails(BadRow, [place], call, THREE, 0, row)


class Faults(unittest.TestCase):
    def fault(self, mixture, row=HALVES):
        return mixture_fault(THREE, 0, row, mixture)

    def test_right_ones(self):
        self.assertIsNone(self.fault(QUARTERS))
        self.assertIsNone(self.fault(QUARTERS[::-1]))
        self.assertIsNone(self.fault([[list(even), weight] for even, weight in QUARTERS]))
        self.assertIsNone(self.fault(tuple((even, (1, 8)) for even, _ in QUARTERS + QUARTERS)))
        self.assertIsNone(self.fault([((1, 1, 0), (1, 1))], ratios(1, 1, 0)))

    def test_even(self):
        for thing in (None, 5, "even", {}, {(0, 0, 0): (1, 1)}, True):
            self.assertEqual(self.fault(thing), "even")
        for item in (None, 5, (), ((0, 0, 0),), ((0, 0, 0), (1, 4), (1, 4)), "ab", {0, 1}, ((0, 0, 1), (1, 4)),
                     ((0, 0), (1, 4)), ((0, 0, 0, 0), (1, 4)), ((True, True, 0), (1, 4)), ((0, 1, True), (1, 4)),
                     ((2, 0, 0), (1, 4)), ((0, 1, -1), (1, 4)), (None, (1, 4)), ("000", (1, 4)), (0, (1, 4)),
                     ((0.0, 0, 0), (1, 4)), ((False, 0, 0), (1, 4)), ((1, 1, 1), (1, 4))):
            self.assertEqual(self.fault([item]), "even")
            self.assertEqual(self.fault([*QUARTERS[:2], ((0, 0, 0), None), item]), "even")

    def test_weight(self):
        self.assertEqual(self.fault(()), "weight")
        self.assertEqual(self.fault([]), "weight")
        self.assertEqual(self.fault(QUARTERS[:3]), "weight")
        self.assertEqual(self.fault(QUARTERS + QUARTERS[:1]), "weight")
        for weight in ([1, 4], (0, 1), (-1, 4), (2, 8), 0, 1, None, True, (True, 1), 0.25, "1/4", (1,), (1, 4, 1)):
            self.assertEqual(self.fault((*QUARTERS[:3], ((1, 1, 0), weight))), "weight")
            self.assertEqual(self.fault((*QUARTERS, ((0, 0, 0), weight))), "weight")
        self.assertEqual(self.fault((((0, 0, 0), (3, 2)), ((1, 1, 0), (-1, 2)))), "weight")
        self.assertEqual(self.fault((*QUARTERS, ((0, 0, 0), (0, 1)))), "weight")

    def test_share(self):
        self.assertEqual(self.fault([((0, 0, 0), (1, 1))]), "share")
        for bit in range(3):
            row = tuple((1, 4) if bit == place else (1, 2) for place in range(3))
            self.assertEqual(self.fault(QUARTERS, row), "share")
        self.assertEqual(self.fault(QUARTERS, ratios(1, 1, 1)), "share")

    def test_bits_outside_do_not_matter(self):
        code = Code(4, [(0, 3), (1, 2)])
        for share in ratios(0, "1/3", 1):
            row = (share, (1, 2), (1, 2), share)
            self.assertIsNone(mixture_fault(code, 1, row, (((0, 0), (1, 2)), ((1, 1), (1, 2)))))


class Sheets(Raises, unittest.TestCase):
    def test_least_number(self):
        random = Random(34)
        for code in some_codes(35, 100, 6, 4):
            row = some_row(random, code.bits)
            fit = [sheets for sheets in range(1, 60)
                   if all(share * sheets % 1 == 0 for share in fractions(row))
                   and all(sum(Fraction(*row[bit]) for bit in check) * sheets % 2 == 0 for check in code.checks)]
            least = sheets_of(code, list(row))
            self.assertEqual(fit, list(range(least, 60, least)))

    def test_examples(self):
        self.assertEqual(sheets_of(FIVE, HALF_ROW), 2)
        self.assertEqual(sheets_of(THREE, HALVES), 4)
        self.assertEqual(sheets_of(THREE, ratios(1, 0, 0)), 2)
        self.assertEqual(sheets_of(THREE, ratios(1, 1, 0)), 1)
        self.assertEqual(sheets_of(Code(2, []), ratios("1/4", "1/6")), 12)
        great = 10 ** 59
        self.assertEqual(sheets_of(Code(2, [(0,)]), ratios(Fraction(1, great), Fraction(1, great + 1))),
                         2 * great * (great + 1))

    def test_wrong_rows(self):
        for row, place in WRONG_ROWS:
            self.fails(BadRow, [place], sheets_of, THREE, row)

    def parts_judged(self, code, number, row, sheets):
        parts = even_parts(code, number, list(row), sheets)
        check = code.checks[number]
        self.assertIs(type(parts), tuple)
        self.assertEqual(len(parts), sheets)
        self.assertEqual(list(parts), sorted(parts))
        for part in parts:
            self.assertIs(type(part), tuple)
            self.assertEqual((len(part), sum(part) % 2), (len(check), 0))
        self.assertEqual([sum(column) for column in zip(*parts)], [Fraction(*row[bit]) * sheets for bit in check])

    def test_parts(self):
        random = Random(36)
        found = 0
        for code in some_codes(37, 120, 7, 2):
            for number, check in enumerate(code.checks):
                row = random.choice((some_row(random, code.bits), let_row_on(random, code.bits, check, 3)))
                for sheets in (1, 2, 3, 4, 6, 12, 24, 60, 240):
                    tops = [Fraction(*row[bit]) * sheets for bit in check]
                    lot, excess = worst_by_hand(check, row)
                    if any(top % 1 for top in tops) or sum(tops) % 2:
                        self.fails(BadSheets, [sheets], even_parts, code, number, row, sheets)
                    elif excess > 0:
                        self.fails(NotLet, [number, lot], even_parts, code, number, row, sheets)
                    else:
                        found += 1
                        self.parts_judged(code, number, row, sheets)
        self.assertGreater(found, 200)

    def test_all_parts_of_small_checks(self):
        for size, sheets in ((1, 3), (2, 5), (3, 4), (4, 3), (4, 4), (5, 3), (6, 2)):
            code = Code(size, [tuple(range(size))])
            for row in grid_rows(size, sheets):
                if is_let(code, row) and sum(fractions(row)) * sheets % 2 == 0:
                    self.parts_judged(code, 0, row, sheets)

    def test_edges_of_sheets(self):
        self.parts_judged(THREE, 0, ratios(1, 1, 0), 1)
        self.parts_judged(THREE, 0, HALVES, 240)
        self.parts_judged(TEN, 0, ratios(*["1/240"] * 10), 240)
        self.parts_judged(THREE, 0, ratios("1/2", "1/2", 0), 2)
        for sheets in (0, 241, -4, True, None, 4.0, "4", (4, 1), 244, 1, 2, 3, 6):
            self.fails(BadSheets, [sheets], even_parts, THREE, 0, HALVES, sheets)

    def test_sheets_ahead_of_let(self):
        row = ratios(1, 0, 0)
        self.fails(BadSheets, [1], even_parts, THREE, 0, row, 1)
        self.fails(NotLet, [0, (0,)], even_parts, THREE, 0, row, 2)
        code = Code(4, [(3,), (0, 1)])
        self.assertEqual(even_parts(code, 1, ratios(1, 1, "1/7", 1), 1), ((1, 1),))


class Blends(Raises, unittest.TestCase):
    def test_blends(self):
        random = Random(38)
        for code in some_codes(39, 40, 6, 4):
            many = random.randint(1, 5)
            rows = [some_row(random, code.bits) for _ in range(many)]
            weights = [Fraction(random.randint(0, 3)) for _ in rows]
            weights[0] += 1
            weights = [weight / sum(weights) for weight in weights]
            blend = blend_of(code, rows, [ratio(weight) for weight in weights])
            self.assertEqual(blend, ratios(*blend_by_hand([fractions(row) for row in rows], weights)))
            self.assertIs(type(blend), tuple)
            for number in range(len(code)):
                greatest = max(Fraction(*worst_lot(code, number, row)[1]) for row in rows)
                self.assertLessEqual(Fraction(*worst_lot(code, number, blend)[1]), greatest)

    def test_blends_of_let_rows(self):
        random = Random(40)
        for code in some_codes(41, 40, 5, 2):
            lets = [row for row in (some_row(random, code.bits, (1, 2)) for _ in range(40)) if is_let(code, row)][:4]
            if lets:
                self.assertIs(is_let(code, blend_of(code, lets, [ratio(Fraction(1, len(lets)))] * len(lets))), True)

    def test_one_and_64(self):
        self.assertEqual(blend_of(THREE, [HALVES], [(1, 1)]), HALVES)
        self.assertEqual(blend_of(THREE, (HALVES,) * 64, ((1, 64),) * 64), HALVES)
        self.assertEqual(blend_of(THREE, [HALVES, ratios(1, 1, 1)], ((0, 1), (1, 1))), ratios(1, 1, 1))

    def test_wrong_rows(self):
        for rows in (None, (), [], "ab", [HALVES] * 65, {}, 5):
            self.fails(BadRows, [-1], blend_of, THREE, rows, None)
        for row in (None, HALVES[:2], (0, 0, 0), ([1, 2],) * 3, HALVES + HALVES, ((3, 2), (0, 1), (0, 1))):
            self.fails(BadRows, [1], blend_of, THREE, [HALVES, row, None], None)

    def test_wrong_weights(self):
        rows = [HALVES, HALVES, HALVES]
        third = (1, 3)
        for weights in (None, (), [third] * 2, [third] * 4, "abc", {}, [third, third, (1, 2)], [(0, 1)] * 3):
            self.fails(BadWeights, [-1], blend_of, THREE, rows, weights)
        for weight in ((-1, 3), [1, 3], 0, 1, True, None, (2, 6), (1, 0)):
            self.fails(BadWeights, [1], blend_of, THREE, rows, [third, weight, weight])
            self.fails(BadWeights, [2], blend_of, THREE, rows, [third, (5, 1), weight])
        self.fails(BadRows, [0], blend_of, THREE, [None], [(1, 2)])


if __name__ == "__main__":
    unittest.main()
