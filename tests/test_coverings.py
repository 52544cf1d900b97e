"""Tests of letbychecks.coverings: [3.8], [3.9], [3.10], [3.11]."""

import unittest
from fractions import Fraction
from itertools import permutations, product
from math import lcm
from random import Random

from letbychecks.codes import Code
from letbychecks.coverings import Covering, cover_of, rows_on_sheets
from letbychecks.covers import Cover
from letbychecks.coverwords import average_row, cover_words, is_cover_word, seen_rows
from letbychecks.errors import BadRow, BadSheets, NotLet, TooMany
from letbychecks.letrows import is_let
from letbychecks.mixtures import sheets_of
from letbychecks.words import row_of_word
from tests.helpers import FIVE, HALF_ROW, Raises, fault_by_hand, fractions, grid_rows, let_row_on, ratios
from tests.helpers import some_codes, words_by_hand

THREE = Code(3, [(0, 1, 2)])
HALVES = ratios("1/2", "1/2", "1/2")


def all_averages(code, sheets):
    """The averages of all cover words of all covers with so many sheets."""
    orders = list(permutations(range(sheets)))
    rows = {}
    for chosen in product(orders, repeat=sum(len(check) for check in code.checks)):
        left = list(chosen)
        cover = Cover(code, sheets, [[left.pop() for _ in check] for check in code.checks])
        for marks in cover_words(cover):
            rows[average_row(cover, marks)] = True
    return sorted(rows, key=fractions)


class CoverOf(Raises, unittest.TestCase):
    def judged(self, code, row, sheets=None):
        """The covering must be a cover of the code with a cover word that averages to the row."""
        made = cover_of(code, list(row)) if sheets is None else cover_of(code, list(row), sheets)
        self.assertIs(type(made), Covering)
        self.assertIs(type(made.cover), Cover)
        self.assertEqual(made.cover, Cover(code, sheets or sheets_of(code, row), made.cover.wires))
        self.assertEqual({type(made.marks)} | {type(copies) for copies in made.marks}, {tuple})
        self.assertIs(is_cover_word(made.cover, made.marks), True)
        self.assertEqual(average_row(made.cover, made.marks), row)
        return made

    def test_all_rows_of_small_codes(self):
        codes = [FIVE, THREE, Code(2, []), Code(3, [(0, 1), (1, 2), (0, 2)]), Code(4, [(0, 1, 2, 3), (1, 2, 3)]),
                 Code(3, [(2,), (0, 1, 2), (0, 1, 2)]), *some_codes(81, 40, 4, 4)]
        doubled = 0
        for code in codes:
            bottoms = {5: (2, 1), 4: (3, 1)}.get(code.bits, (3, 4))
            for row in grid_rows(code.bits, bottoms[0]) + grid_rows(code.bits, bottoms[1]):
                fault = fault_by_hand(code, row)
                if fault is not None:
                    self.fails(NotLet, fault, cover_of, code, row)
                else:
                    least = sheets_of(code, row)
                    doubled += least > lcm(*[share[1] for share in row])
                    self.judged(code, row)
                    self.judged(code, row, 2 * least)
                    self.judged(code, row, 5 * least)
        self.assertGreater(doubled, 20)

    def test_ten_bits(self):
        random = Random(82)
        code = Code(10, [tuple(range(10))] * 2)
        for _ in range(30):
            row = let_row_on(random, 10, code.checks[0], 5)
            if sheets_of(code, row) <= 240:
                self.judged(code, row)

    def test_many_checks(self):
        code = Code(10, [tuple(range(10))] * 63)
        self.judged(code, ratios(*["1/2"] * 10), 240)
        self.judged(code, ratios(*["1/120"] * 10))

    def test_words(self):
        for word in words_by_hand(FIVE):
            made = self.judged(FIVE, row_of_word(word))
            self.assertEqual(made.marks, tuple((digit,) for digit in word))
            self.judged(FIVE, row_of_word(word), 1)

    def test_example(self):
        made = self.judged(FIVE, HALF_ROW)
        self.assertEqual(made.cover.sheets, 2)
        self.assertEqual(seen_rows(made.cover, made.marks, 1), (((0, 1, 1), (1, 2)), ((1, 0, 1), (1, 2))))
        self.assertEqual(seen_rows(made.cover, made.marks, 0), (((0, 0), (1, 2)), ((1, 1), (1, 2))))

    def test_sheets(self):
        self.assertEqual(self.judged(THREE, HALVES).cover.sheets, 4)
        for sheets in (4, 8, 240):
            self.judged(THREE, HALVES, sheets)
        for sheets in (0, 1, 2, 3, 5, 6, 244, -4, True, False, 4.0, "4", (4,), 10 ** 60):
            self.fails(BadSheets, [sheets], cover_of, THREE, HALVES, sheets)
        self.assertEqual(cover_of(THREE, HALVES, sheets=8).cover.sheets, 8)
        self.assertEqual(cover_of(THREE, HALVES, None).cover.sheets, 4)

    def test_240_and_more(self):
        wide = Code(2, [(0,)])
        self.judged(wide, ratios(0, "7/240"))
        self.judged(wide, ratios(0, "7/240"), 240)
        self.judged(Code(2, [(0, 1)]), ratios("1/239", "1/239"))
        self.fails(TooMany, [240], cover_of, wide, ratios(0, "1/241"))
        self.fails(TooMany, [240], cover_of, Code(3, [(0, 1, 2)]), ratios("1/121", "1/121", "1/121"))
        self.fails(BadSheets, [240], cover_of, wide, ratios(0, "1/241"), 240)
        self.fails(BadSheets, [241], cover_of, wide, ratios(0, "1/241"), 241)

    def test_refusals_in_turn(self):
        bad = ratios(1, 0, 0)
        great = ratios(1, 0, "1/241")
        self.fails(BadRow, [-1], cover_of, THREE, None, True)
        self.fails(BadRow, [1], cover_of, THREE, ((1, 1), 0, 0), 0)
        self.fails(BadSheets, [3], cover_of, THREE, bad, 3)
        self.fails(TooMany, [240], cover_of, THREE, great)
        self.fails(BadSheets, [0], cover_of, THREE, great, 0)
        self.fails(NotLet, [0, (0,)], cover_of, THREE, bad)
        self.fails(NotLet, [0, (0,)], cover_of, THREE, bad, 2)
        self.fails(NotLet, [1, (1,)], cover_of, Code(3, [(0, 1), (1, 2), (2,)]), ratios(1, 1, 0))

    def test_result(self):
        one, other = object(), []
        made = Covering(one, other)
        self.assertIs(made.cover, one)
        self.assertIs(made.marks, other)
        self.assertEqual(list(vars(Covering(marks=1, cover=2)).items()), [("cover", 2), ("marks", 1)])
        self.assertFalse(Covering(1, 2) == Covering(1, 2))


class RowsOnSheets(Raises, unittest.TestCase):
    def test_all_averages(self):
        cases = [(Code(1, []), 4), (Code(2, [(0, 1)]), 1), (Code(2, [(0, 1)]), 2), (Code(2, [(0, 1)]), 3), (THREE, 1),
                 (THREE, 2), (THREE, 3), (Code(3, [(0, 1), (1, 2)]), 2), (Code(3, [(0, 1), (0, 1, 2)]), 2),
                 (Code(2, [(0, 1), (1,)]), 3), (Code(4, [(0, 1, 2, 3)]), 2), (Code(3, [(0, 1), (1, 2), (0, 2)]), 2)]
        for code, sheets in cases:
            self.assertEqual(list(rows_on_sheets(code, sheets)), all_averages(code, sheets))

    def test_chance(self):
        for code in some_codes(83, 60, 4, 3):
            for sheets in (1, 2, 3, 4):
                told = [row for row in grid_rows(code.bits, sheets) if is_let(code, row) and all(
                    sum(Fraction(*row[bit]) for bit in check) * sheets % 2 == 0 for check in code.checks)]
                self.assertEqual(list(rows_on_sheets(code, sheets)), told)
                self.assertTrue(all(sheets % sheets_of(code, row) == 0 for row in told))

    def test_one_sheet_gives_the_words(self):
        for code in (FIVE, Code(10, [(0, 1, 2), (3, 4)])):
            self.assertEqual(list(rows_on_sheets(code, 1)), [row_of_word(word) for word in words_by_hand(code)])

    def test_begun_twice(self):
        rows = rows_on_sheets(THREE, 2)
        self.assertEqual(next(rows), next(rows_on_sheets(THREE, 2)))
        self.assertEqual(next(rows), ratios(0, "1/2", "1/2"))
        self.assertEqual({type(row) for row in rows}, {tuple})

    def test_wrong_sheets(self):
        for sheets in (0, 241, -1, True, None, 2.0, "2", 10 ** 40):
            self.fails(BadSheets, [sheets], lambda: list(rows_on_sheets(FIVE, sheets)))

    def test_too_many(self):
        self.assertEqual(len(list(rows_on_sheets(Code(1, []), 240))), 241)
        self.assertEqual(len(list(rows_on_sheets(Code(2, []), 63))), 4096)
        self.assertEqual(len(list(rows_on_sheets(Code(6, []), 3))), 4096)
        self.assertEqual(len(list(rows_on_sheets(Code(10, []), 1))), 1024)
        for bits, sheets in ((2, 64), (6, 4), (10, 2), (10, 240), (4, 8), (3, 16)):
            self.fails(TooMany, [4096], lambda: list(rows_on_sheets(Code(bits, []), sheets)))
        self.assertEqual(len(list(rows_on_sheets(Code(6, [(0, 1)] * 63), 3))), 1024)


if __name__ == "__main__":
    unittest.main()
