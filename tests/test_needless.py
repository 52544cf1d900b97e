"""Tests of letbychecks.needless: [9.8], [9.9]."""

import unittest
from random import Random

from letbychecks.codes import Code
from letbychecks.errors import BadLot, NoSum, TooMany
from letbychecks.needless import needed_sums, needless_parts
from letbychecks.stops import stop_lots
from tests.helpers import FIVE, Raises, fault_by_hand, grid_rows, some_code, some_codes, some_row, sums_by_hand

WRONG_LOTS = (None, "0", 0, (5,), (-1,), (True,), (1, 1), [[0]], {0}, (None,))
WIDE = Code(7, [(bit,) for bit in range(7)])


def parts_by_hand(code, lot):
    """The first couple by trying all couples."""
    sums = sums_by_hand(code)
    for place, one in enumerate(sums):
        for other in sums[place + 1:]:
            if (set(one) ^ set(other) == set(lot) and max(len(one), len(other)) < len(lot)
                    and len(set(one) & set(other)) <= 1):
                return one, other
    return None


def codes():
    """Codes with at most 63 sum checks, some of them with checks of three bits alone."""
    random = Random(942)
    threes = [Code(10, [random.sample(range(10), 3) for _ in range(random.randint(3, 6))]) for _ in range(15)]
    return [code for code in some_codes(941, 60, 8, 6) + threes if len(sums_by_hand(code)) < 64]


class Parts(Raises, unittest.TestCase):
    def test_by_all_couples(self):
        random = Random(943)
        common = {0: 0, 1: 0}
        told = {True: 0, False: 0}
        for code in codes():
            for lot in sums_by_hand(code):
                parts = needless_parts(code, random.sample(lot, len(lot)))
                self.assertEqual(parts, parts_by_hand(code, lot), (code.checks, lot))
                told[parts is None] += 1
                if parts is not None:
                    self.assertEqual({type(parts)} | {type(part) for part in parts}, {tuple})
                    common[len(set(parts[0]) & set(parts[1]))] += 1
        self.assertGreater(min(told.values()), 100)
        self.assertGreater(min(common.values()), 50)

    def test_needed_sums(self):
        for code in codes() + [Code(4, []), FIVE]:
            told = tuple(lot for lot in sums_by_hand(code) if parts_by_hand(code, lot) is None)
            self.assertEqual(needed_sums(code), told)

    def test_examples(self):
        code = Code(5, [(0, 1, 2), (2, 3, 4)])
        self.assertEqual(needless_parts(code, (0, 1, 3, 4)), ((0, 1, 2), (2, 3, 4)))
        self.assertEqual(needless_parts(code, [4, 3, 1, 0]), ((0, 1, 2), (2, 3, 4)))
        self.assertIsNone(needless_parts(code, (0, 1, 2)))
        self.assertEqual(needed_sums(code), ((0, 1, 2), (2, 3, 4)))
        # Parts as great as the lot itself do not make it needless.
        code = Code(4, [(0, 1, 2), (0, 1, 3)])
        self.assertEqual(needed_sums(code), ((2, 3), (0, 1, 2), (0, 1, 3)))
        # Two common bits are one too many, none at all will do.
        self.assertEqual(needless_parts(Code(4, [(0, 1), (2, 3)]), (0, 1, 2, 3)), ((0, 1), (2, 3)))
        self.assertIsNone(needless_parts(Code(6, [(0, 1, 2, 3), (2, 3, 4, 5)]), (0, 1, 4, 5)))
        self.assertEqual(needed_sums(FIVE), ((2,), (0, 1), (3, 4)))

    def test_two_common_bits_of_smaller_lots(self):
        code = Code(8, [(0, 1, 2, 3, 4), (3, 4, 5, 6, 7)])
        self.assertIsNone(needless_parts(code, (0, 1, 2, 5, 6, 7)))
        self.assertEqual(needed_sums(code), ((0, 1, 2, 3, 4), (3, 4, 5, 6, 7), (0, 1, 2, 5, 6, 7)))
        code = Code(7, [(0, 1, 2, 3), (3, 4, 5, 6)])
        self.assertEqual(needless_parts(code, (0, 1, 2, 4, 5, 6)), ((0, 1, 2, 3), (3, 4, 5, 6)))

    def test_first_couple_by_its_first_lot(self):
        code = Code(4, [(0,), (1,), (2,), (3,)])
        self.assertEqual(needless_parts(code, (0, 1, 2, 3)), ((0,), (1, 2, 3)))
        self.assertEqual(needless_parts(code, (1, 3)), ((1,), (3,)))
        self.assertEqual(needed_sums(code), ((0,), (1,), (2,), (3,)))

    def test_no_sum_checks(self):
        self.assertEqual(needed_sums(Code(3, [])), ())
        self.fails(NoSum, [], needless_parts, Code(3, []), (0,))
        self.fails(NoSum, [], needless_parts, Code(3, []), ())

    def test_errors_in_turn(self):
        for lot in WRONG_LOTS:
            self.fails(BadLot, [], needless_parts, FIVE, lot)
        self.fails(BadLot, [], needless_parts, WIDE, (7,))
        self.fails(TooMany, [63], needless_parts, WIDE, (0, 1))
        self.fails(TooMany, [63], needless_parts, WIDE, ())
        self.fails(TooMany, [63], needed_sums, WIDE)
        for lot in ((), (0,), (1, 2), [0, 1, 3]):
            self.fails(NoSum, [], needless_parts, FIVE, lot)
        six = Code(6, WIDE.checks[:6])
        self.assertEqual(needed_sums(six), WIDE.checks[:6])


class Rows(unittest.TestCase):
    def test_the_needed_ones_let_the_same_rows(self):
        random = Random(944)
        told = {True: 0, False: 0}
        for _ in range(40):
            code = some_code(random, 5, 4)
            full = Code(code.bits, sums_by_hand(code))
            needed = Code(code.bits, needed_sums(code))
            rows = [some_row(random, code.bits) for _ in range(15)]
            for row in rows + (grid_rows(code.bits, 2) if code.bits < 5 else []):
                let = fault_by_hand(needed, row) is None
                self.assertEqual(let, fault_by_hand(full, row) is None)
                told[let] += 1
        self.assertGreater(min(told.values()), 100)

    def test_a_needed_one_bars_a_row(self):
        """Of 23, 012 and 013 the first, left out, lets more."""
        code = Code(4, [(2, 3), (0, 1, 2), (0, 1, 3)])
        row = ((1, 2), (1, 2), (0, 1), (1, 1))
        self.assertIn((2, 3), needed_sums(code))
        self.assertIsNone(fault_by_hand(Code(4, code.checks[1:]), row))
        self.assertIsNotNone(fault_by_hand(code, row))

    def test_stop_lots(self):
        """[6.3]: the code with all sum checks and the one with the needed ones have the same stop lots."""
        for code in codes()[:30]:
            full = Code(code.bits, sums_by_hand(code))
            self.assertEqual(list(stop_lots(Code(code.bits, needed_sums(code)))), list(stop_lots(full)))


if __name__ == "__main__":
    unittest.main()
