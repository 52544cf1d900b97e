"""Tests of letbychecks.flips: [5.6], and of [5.10] what it says of flips."""

import inspect
import unittest
from math import gcd
from random import Random

from letbychecks.codes import Code
from letbychecks.errors import BadLot, BadMany
from letbychecks.flips import Flips, barred_lots, flip_fault, flip_prices, greatest_flips
from letbychecks.rays import all_rays, bars_from
from tests.helpers import FIVE, Raises, cone_rules_by_hand, digit_costs, keeps_rules, lots_of, some_codes, sums_by_hand
from tests.helpers import words_by_hand

RING = Code(3, [(0, 1), (1, 2), (0, 2)])
BARE = Code(3, [(0,), (0, 1), (0, 1, 2)])
CHAIN = Code(10, [(bit, bit + 1) for bit in range(9)])
WRONG_LOTS = (None, "0", 0, (5,), (0, 0), (True,), (-1,), [[0]], {0}, (None,))


def is_barred(row, lot):
    """Whether the entries on the lot come to those off it at least."""
    return 2 * sum(row[bit] for bit in lot) >= sum(row)


def barred_by_hand(code, many):
    """All lots of so many bits that some ray bars."""
    rays = all_rays(code)
    return [lot for lot in lots_of(range(code.bits), [many]) if any(is_barred(ray, lot) for ray in rays)]


class Judged(Raises, unittest.TestCase):
    def bar_judged(self, code, lot, row):
        """A cone row, not 0, without a common divisor, that bars the lot."""
        self.assertEqual((type(row), len(row)), (tuple, code.bits))
        self.assertTrue(keeps_rules(cone_rules_by_hand(code), row))
        self.assertEqual(gcd(*row), 1)
        self.assertTrue(is_barred(row, lot))


class FlipFault(Judged):
    def test_prices(self):
        self.assertEqual(flip_prices(FIVE, (3, 0)), (-1, 1, 1, -1, 1))
        self.assertEqual(flip_prices(FIVE, []), (1,) * 5)
        self.assertEqual(flip_prices(FIVE, [4, 3, 2, 1, 0]), (-1,) * 5)

    def test_as_the_rays_tell(self):
        random = Random(521)
        told = {True: 0, False: 0}
        for code in some_codes(522, 70, 7, 4) + [RING, BARE, FIVE, Code(1, []), Code(1, [(0,)])]:
            rays = all_rays(code)
            for lot in random.sample(lots_of(range(code.bits)), min(6, 1 << code.bits)):
                given = random.sample(lot, len(lot))
                row = flip_fault(code, given)
                self.assertEqual(row is not None, any(is_barred(ray, lot) for ray in rays))
                told[row is None] += 1
                if row is not None:
                    self.bar_judged(code, lot, row)
        self.assertGreater(min(told.values()), 30)

    def test_empty_lot_and_all_bits(self):
        for code in (FIVE, RING, BARE, CHAIN, Code(1, [])):
            self.assertIsNone(flip_fault(code, ()))
            row = flip_fault(code, list(range(code.bits)))
            if code is BARE:
                self.assertIsNone(row)
            else:
                self.bar_judged(code, range(code.bits), row)

    def test_wide_codes(self):
        self.assertIsNone(flip_fault(CHAIN, (9, 0, 5, 2)))
        self.assertEqual(flip_fault(CHAIN, (9, 0, 5, 2, 3)), (1,) * 10)
        for code in some_codes(523, 30, 10, 6):
            for lot in ((0,), tuple(range(code.bits // 2))):
                row = flip_fault(code, lot)
                if row is not None:
                    self.bar_judged(code, lot, row)
                    self.assertLessEqual(digit_costs(flip_prices(code, lot), row), 0)

    def test_within_a_mended_lot(self):
        for code in some_codes(524, 30, 6, 5):
            for lot in lots_of(range(code.bits)):
                if flip_fault(code, lot) is None:
                    self.assertTrue(all(flip_fault(code, lot[:place] + lot[place + 1:]) is None
                                        for place in range(len(lot))))

    def test_wrong_lots(self):
        for lot in WRONG_LOTS:
            self.fails(BadLot, [], flip_prices, FIVE, lot)
            self.fails(BadLot, [], flip_fault, FIVE, lot)

    def test_all_sum_checks(self):
        """[5.10]"""
        for code in some_codes(525, 40, 6, 4):
            full = Code(code.bits, sums_by_hand(code))
            words = [word for word in words_by_hand(code) if any(word)]
            for lot in lots_of(range(code.bits)):
                mended = all(2 * sum(word[bit] for bit in lot) < sum(word) for word in words)
                self.assertEqual(flip_fault(full, lot) is None, mended)


class BarredLots(Raises, unittest.TestCase):
    def test_as_the_rays_tell(self):
        for code in some_codes(526, 60, 6, 4) + [RING, BARE, FIVE]:
            for many in range(code.bits + 1):
                self.assertEqual(list(barred_lots(code, many)), barred_by_hand(code, many))

    def test_wide_codes(self):
        self.assertEqual(list(barred_lots(CHAIN, 4)), [])
        self.assertEqual(list(barred_lots(CHAIN, 5)), lots_of(range(10), [5]))
        code = Code(9, [(0, 1, 2), (3, 4, 5), (6, 7, 8), (0, 3, 6), (1, 4, 7)])
        for many in (0, 1, 2, 8, 9):
            told = list(barred_lots(code, many))
            self.assertEqual(told, [lot for lot in lots_of(range(9), [many]) if flip_fault(code, lot) is not None])

    def test_begun_twice(self):
        self.assertTrue(inspect.isgeneratorfunction(barred_lots))
        lots = barred_lots(FIVE, 1)
        self.assertEqual(next(lots), (0,))
        self.assertEqual(list(barred_lots(FIVE, 1)), [(0,), (1,), (3,), (4,)])
        self.assertEqual(list(lots), [(1,), (3,), (4,)])

    def test_wrong_many(self):
        for many in (-1, 6, True, False, None, 1.0, "1", (1,)):
            self.fails(BadMany, [many], lambda: list(barred_lots(FIVE, many)))
        self.assertEqual(list(barred_lots(FIVE, 0)), [])
        self.assertEqual(list(barred_lots(FIVE, 5)), [(0, 1, 2, 3, 4)])


class GreatestFlips(Judged):
    def told(self, code):
        """The Flips, its row judged, as a couple."""
        flips = greatest_flips(code)
        if flips.lot is None:
            self.assertIsNone(flips.row)
        else:
            self.bar_judged(code, flips.lot, flips.row)
        return flips.many, flips.lot

    def test_as_the_rays_tell(self):
        manys = set()
        for code in some_codes(527, 120, 7, 6) + [RING, FIVE, BARE]:
            rays = all_rays(code)
            many = min((bars_from(code, ray) - 1 for ray in rays), default=code.bits)
            lot = barred_by_hand(code, many + 1)[0] if rays else None
            self.assertEqual(self.told(code), (many, lot))
            manys.add(many)
        self.assertGreaterEqual(manys, {0, 1, 2})

    def test_wide_codes(self):
        self.assertEqual(self.told(CHAIN), (4, (0, 1, 2, 3, 4)))
        self.assertEqual(self.told(Code(9, CHAIN.checks[:8])), (4, (0, 1, 2, 3, 4)))
        self.assertEqual(self.told(Code(10, CHAIN.checks[1:])), (0, (0,)))
        self.assertEqual(self.told(Code(10, [(0,)] + list(CHAIN.checks))), (10, None))
        self.assertEqual(self.told(Code(8, [(0, 1), (1, 2), (3, 4), (4, 5), (5, 6), (6, 7)])), (1, (0, 1)))
        random = Random(528)
        for bits in (7, 8, 9, 10):
            code = Code(bits, [random.sample(range(bits), random.randint(2, 4)) for _ in range(9)])
            many, lot = self.told(code)
            self.assertTrue(all(flip_fault(code, lot) is None for lot in lots_of(range(bits), [many])))
            self.assertEqual(lot, next(lot for lot in lots_of(range(bits), [many + 1])
                                       if flip_fault(code, lot) is not None))

    def test_examples(self):
        flips = greatest_flips(FIVE)
        self.assertEqual((flips.many, flips.lot, flips.row), (0, (0,), (1, 1, 0, 0, 0)))
        self.assertEqual(self.told(RING), (1, (0, 1)))
        self.assertEqual(self.told(BARE), (3, None))
        self.assertEqual(self.told(Code(1, [(0,)])), (1, None))
        self.assertEqual(self.told(Code(1, [])), (0, (0,)))

    def test_a_bit_in_no_check(self):
        self.assertEqual(self.told(Code(4, RING.checks)), (0, (3,)))
        self.assertEqual(self.told(Code(4, BARE.checks)), (0, (3,)))

    def test_result(self):
        self.assertEqual(list(vars(Flips(row=3, lot=2, many=1)).items()), [("many", 1), ("lot", 2), ("row", 3)])
        self.assertFalse(Flips(1, 2, 3) == Flips(1, 2, 3))


if __name__ == "__main__":
    unittest.main()
