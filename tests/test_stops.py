"""Tests of letbychecks.stops: [6.1], [6.2], [6.3]."""

import inspect
import unittest
from random import Random

from letbychecks.codes import Code
from letbychecks.errors import BadLot, BadRow, NotLet, NotStop
from letbychecks.letrows import is_let
from letbychecks.mixtures import sheets_of
from letbychecks.rays import all_rays
from letbychecks.stops import greatest_stop, joined_stops, least_stops, row_support, stop_fault, stop_lots, stop_row
from tests.helpers import FIVE, HALF_ROW, Raises, cone_rows_by_hand, fault_by_hand, grid_rows, lots_of, ratios
from tests.helpers import some_codes, sums_by_hand, words_by_hand

THREE = Code(3, [(0, 1), (0, 2), (0, 1, 2)])
RING = Code(3, [(0, 1), (1, 2), (0, 2)])
WRONG_LOTS = (None, "0", 0, (5,), (0, 0), (True,), (-1,), [[0]], {0}, (None,))


def single_by_hand(code, lot):
    """What stop_fault must return."""
    return next((number for number, check in enumerate(code.checks) if len(set(check) & set(lot)) == 1), None)


def stops_by_hand(code):
    """All stop lots in the order of lots."""
    return [lot for lot in lots_of(range(code.bits)) if single_by_hand(code, lot) is None]


def codes():
    """Codes by chance and those at the edges."""
    return (some_codes(601, 60, 6, 5) + some_codes(602, 6, 10, 6)
            + [FIVE, THREE, RING, Code(1, []), Code(1, [(0,)]), Code(10, []), Code(4, [(0, 1, 2, 3)] * 3)])


class StopLots(Raises, unittest.TestCase):
    def test_stop_fault(self):
        random = Random(603)
        for code in codes():
            for lot in random.sample(lots_of(range(code.bits)), min(20, 1 << code.bits)):
                self.assertEqual(stop_fault(code, random.sample(lot, len(lot))), single_by_hand(code, lot))

    def test_plain_ones(self):
        for code in codes():
            self.assertIsNone(stop_fault(code, ()))
        self.assertIsNone(stop_fault(Code(2, [(0,)]), (1,)))
        self.assertEqual(stop_fault(Code(2, [(0,)]), (1, 0)), 0)
        self.assertEqual(stop_fault(Code(3, [(1, 2), (0, 1, 2), (0,)]), (0, 1, 2)), 2)
        self.assertEqual(stop_fault(FIVE, (2,)), 1)
        self.assertIsNone(stop_fault(FIVE, [4, 3]))

    def test_greatest_stop(self):
        random = Random(604)
        for code in codes():
            stops = stops_by_hand(code)
            for lot in random.sample(lots_of(range(code.bits)), min(15, 1 << code.bits)):
                held = [set(stop) for stop in stops if set(stop) <= set(lot)]
                told = greatest_stop(code, random.sample(lot, len(lot)))
                self.assertEqual(told, tuple(sorted(set().union(*held))))

    def test_stop_lots(self):
        self.assertTrue(inspect.isgeneratorfunction(stop_lots))
        for code in codes():
            self.assertEqual(list(stop_lots(code)), stops_by_hand(code))
        lots = stop_lots(FIVE)
        self.assertEqual(next(lots), ())
        self.assertEqual(next(stop_lots(FIVE)), ())
        self.assertEqual(list(lots), [(0, 1), (3, 4), (0, 1, 3, 4), (0, 1, 2, 3, 4)])

    def test_bits_with_a_check_of_their_own(self):
        code = Code(4, [(2,), (0, 1, 2)])
        self.assertEqual(list(stop_lots(code)), [(), (3,), (0, 1), (0, 1, 3)])
        self.assertEqual(least_stops(code), ((3,), (0, 1)))

    def test_least_stops(self):
        for code in codes():
            stops = [lot for lot in stops_by_hand(code) if lot]
            least = [lot for lot in stops if not any(set(other) < set(lot) for other in stops)]
            self.assertEqual(least_stops(code), tuple(least))
        self.assertEqual(least_stops(THREE), ((0, 1, 2),))
        self.assertEqual(least_stops(Code(1, [(0,)])), ())
        self.assertEqual(least_stops(FIVE), ((0, 1), (3, 4)))

    def test_joined_stops(self):
        self.assertEqual(joined_stops(FIVE), ())
        self.assertEqual(joined_stops(FIVE, ()), ())
        self.assertEqual(joined_stops(FIVE, [4, 3]), (3, 4))
        self.assertEqual(joined_stops(FIVE, [4, 3], (1, 0)), (0, 1, 3, 4))
        self.assertEqual(joined_stops(FIVE, (0, 1, 2, 3, 4), (0, 1), ()), (0, 1, 2, 3, 4))
        for code in codes()[:30]:
            stops = stops_by_hand(code)[:6]
            joined = joined_stops(code, *stops)
            self.assertEqual(joined, tuple(sorted(set().union(*stops))))
            self.assertIn(joined, stops_by_hand(code))

    def test_each_error_before_the_next_lot(self):
        self.fails(NotStop, [1], joined_stops, FIVE, (0, 1), (2,), None)
        self.fails(BadLot, [], joined_stops, FIVE, (0, 1), None, (2,))
        self.fails(BadLot, [], joined_stops, FIVE, (0, 0), (2,))
        self.fails(NotStop, [0], joined_stops, FIVE, (0,), (0, 0))
        self.fails(NotStop, [2], joined_stops, FIVE, [3, 4], (4, 0, 1))

    def test_wrong_lots(self):
        for lot in WRONG_LOTS:
            for call in (stop_fault, greatest_stop, stop_row, joined_stops):
                self.fails(BadLot, [], call, FIVE, lot)


class Rows(Raises, unittest.TestCase):
    def test_stop_rows(self):
        manys = set()
        for code in codes():
            words = {tuple(bit for bit in range(code.bits) if word[bit]) for word in words_by_hand(code)}
            for lot in stops_by_hand(code)[:40]:
                row = stop_row(code, list(lot))
                self.assertEqual(row, ratios(*["1/2" if bit in lot else 0 for bit in range(code.bits)]))
                self.assertIsNone(fault_by_hand(code, row))
                many = 1 if lot == () else 2 if lot in words else 4
                self.assertEqual(sheets_of(code, row), many)
                self.assertEqual(row_support(code, row), lot)
                manys.add(many)
        self.assertEqual(manys, {1, 2, 4})

    def test_not_stop(self):
        self.fails(NotStop, [1], stop_row, FIVE, (2,))
        self.fails(NotStop, [0], stop_row, FIVE, [4, 0])
        self.fails(NotStop, [0], stop_row, Code(1, [(0,)]), (0,))

    def test_row_support(self):
        self.assertEqual(row_support(FIVE, HALF_ROW), (0, 1, 2, 3, 4))
        self.assertEqual(row_support(FIVE, list(ratios(0, 0, 0, "1/9", "1/9"))), (3, 4))
        self.assertEqual(row_support(FIVE, ratios(0, 0, 0, 0, 0)), ())
        self.fails(BadRow, [-1], row_support, FIVE, None)
        self.fails(BadRow, [4], row_support, FIVE, ratios(1, 0, 0, 0) + (1,))
        self.fails(NotLet, [0, (0,)], row_support, FIVE, ratios(1, 0, 0, 0, 0))
        self.fails(NotLet, [1, (0, 1, 2)], row_support, FIVE, ratios(1, 1, "1/2", 1, 1))
        self.fails(NotLet, [1, (2,)], row_support, FIVE, ratios(0, 0, "1/2", "1/4", "1/4"))

    def test_supports_of_let_rows(self):
        for code in some_codes(605, 30, 4, 4):
            rows = [row for row in grid_rows(code.bits, 4) if is_let(code, row)]
            self.assertEqual({row_support(code, row) for row in rows}, set(stops_by_hand(code)))
            cone = {tuple(bit for bit in range(code.bits) if row[bit]) for row in cone_rows_by_hand(code, 2)}
            self.assertEqual(cone, set(stops_by_hand(code)))

    def test_supports_of_rays(self):
        for code in some_codes(606, 40, 6, 5):
            supports = {tuple(bit for bit in range(code.bits) if ray[bit]) for ray in all_rays(code)}
            joined = {()}
            for lot in supports:
                joined |= {tuple(sorted(set(lot) | set(other))) for other in joined}
            self.assertEqual(joined, set(stops_by_hand(code)))
            least = {lot for lot in supports if not any(set(other) < set(lot) for other in supports)}
            self.assertEqual(least, set(least_stops(code)))

    def test_all_sum_checks(self):
        """With all sum checks the stop lots are the lots of ones of words, put together."""
        for code in some_codes(607, 30, 5, 4):
            full = Code(code.bits, sums_by_hand(code))
            joined = {()}
            for word in words_by_hand(code):
                ones = {bit for bit in range(code.bits) if word[bit]}
                joined |= {tuple(sorted(ones | set(other))) for other in joined}
            self.assertEqual(set(stop_lots(full)), joined)


if __name__ == "__main__":
    unittest.main()
