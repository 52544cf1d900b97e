"""Tests of letbychecks.counted: [5.9]."""

import unittest
from fractions import Fraction
from itertools import product
from random import Random

from letbychecks.codes import Code
from letbychecks.counted import counted_cover, counted_fault
from letbychecks.covers import Cover
from letbychecks.coverings import Covering
from letbychecks.coverwords import average_row, cover_words
from letbychecks.errors import BadCone, NotCone, OddCount, TooMany
from letbychecks.rays import all_rays
from tests.helpers import FIVE, Raises, cone_rules_by_hand, keeps_rules, ratios, some_code, some_codes, some_cover

RING = Code(3, [(0, 1), (1, 2), (0, 2)])
THREE = Code(3, [(0, 1, 2)])
GREAT = 10 ** 59


def fault_by_hand(code, row):
    """What counted_fault must return."""
    for number, check in enumerate(code.checks):
        for bit in check:
            if 2 * row[bit] > sum(row[other] for other in check):
                return ("cone", number, bit)
    for number, check in enumerate(code.checks):
        if sum(row[bit] for bit in check) % 2:
            return ("odd", number)
    return None


class Counted(Raises, unittest.TestCase):
    def cover_judged(self, code, row):
        """A cover word of a cover of the code with these counts, on just as many sheets as told."""
        told = counted_cover(code, row)
        self.assertIs(type(told), Covering)
        cover, marks = told.cover, told.marks
        self.assertIs(type(cover), Cover)
        self.assertEqual(cover.code, code)
        sheets = max([1, *row] + [Fraction(sum(row[bit] for bit in check), 2) for check in code.checks])
        self.assertEqual(cover.sheets, sheets)
        self.assertEqual([sum(copies) for copies in marks], list(row))
        self.assertEqual({len(copies) for copies in marks}, {sheets})
        self.assertTrue(all(type(copies) is tuple and set(copies) <= {0, 1} for copies in marks))
        for check, wiring in zip(code.checks, cover.wires):
            for sheet in range(cover.sheets):
                self.assertEqual(sum(marks[bit][wire[sheet]] for bit, wire in zip(check, wiring)) % 2, 0)

    def test_small_rows(self):
        faults = {"cone": 0, "odd": 0, None: 0}
        for code in some_codes(551, 30, 4, 4) + [RING, THREE, Code(1, []), Code(1, [(0,)])]:
            for row in product(range(4), repeat=code.bits):
                fault = fault_by_hand(code, row)
                self.assertEqual(counted_fault(code, list(row)), fault)
                faults[fault and fault[0]] += 1
                if fault is None:
                    self.cover_judged(code, row)
        self.assertGreater(min(faults.values()), 50)

    def test_zeros(self):
        for code in (FIVE, RING, Code(10, []), Code(2, [(0,), (0, 1)])):
            row = (0,) * code.bits
            self.assertIsNone(counted_fault(code, row))
            self.cover_judged(code, row)

    def test_cone_ahead_of_odd(self):
        code = Code(4, [(0, 1), (0, 1, 2), (2, 3)])
        self.assertEqual(counted_fault(code, (1, 1, 1, 2)), ("cone", 2, 3))
        self.assertEqual(counted_fault(code, (1, 1, 1, 1)), ("odd", 1))
        self.assertEqual(counted_fault(code, (1, 2, 1, 1)), ("cone", 0, 1))
        self.assertIsNone(counted_fault(code, (1, 1, 2, 2)))
        self.fails(NotCone, [2, 3], counted_cover, code, (1, 1, 1, 2))
        self.fails(OddCount, [1], counted_cover, code, [1, 1, 1, 1])
        self.fails(NotCone, [0, 0], counted_cover, code, (GREAT, 0, 0, 0))

    def test_each_ray_or_its_double(self):
        for code in some_codes(552, 40, 7, 4):
            for ray in all_rays(code)[:10]:
                row = ray if counted_fault(code, ray) is None else tuple(2 * entry for entry in ray)
                self.assertIsNone(counted_fault(code, row))
                self.cover_judged(code, row)

    def test_counts_of_all_cover_words(self):
        """All that cover words of any covers have as counts is judged right."""
        random = Random(553)
        for _ in range(25):
            code = some_code(random, 4, 3)
            cover = some_cover(random, code, random.randint(1, 3))
            for marks in cover_words(cover):
                self.assertIsNone(counted_fault(code, [sum(copies) for copies in marks]))

    def test_number_of_sheets(self):
        for row, sheets in (((2, 1, 1), 2), ((1, 1, 0), 1), ((2, 2, 2), 3), ((3, 3, 4), 5), ((5, 5, 0), 5)):
            self.assertEqual(counted_cover(THREE, row).cover.sheets, sheets)
            self.cover_judged(THREE, row)
        told = counted_cover(Code(2, []), (7, 3))
        self.assertEqual((told.cover.sheets, average_row(told.cover, told.marks)), (7, ratios(1, Fraction(3, 7))))

    def test_too_many(self):
        self.cover_judged(Code(1, []), (240,))
        self.cover_judged(THREE, (160, 160, 160))
        self.fails(TooMany, [240], counted_cover, Code(1, []), (241,))
        self.fails(TooMany, [240], counted_cover, THREE, (162, 160, 160))
        self.fails(TooMany, [240], counted_cover, RING, (GREAT,) * 3)
        self.fails(OddCount, [0], counted_cover, THREE, (GREAT, GREAT, GREAT + 1))
        self.fails(NotCone, [0, 0], counted_cover, THREE, (GREAT, 1, 1))
        self.assertIsNone(counted_fault(RING, (GREAT,) * 3))

    def test_wrong_entries(self):
        for call in (counted_fault, counted_cover):
            for row, place in ((None, -1), ((1, 1), -1), ("000", -1), ((1, -1, True), 1), ([True, 1, 1], 0),
                               ((9, 0, None), 2), ((0, 1.0, 1), 1)):
                self.fails(BadCone, [place], call, THREE, row)


if __name__ == "__main__":
    unittest.main()
