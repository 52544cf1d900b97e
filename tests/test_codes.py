"""Tests of letbychecks.codes: [0.6], [0.9], [1.2], [1.3]."""

import unittest

from letbychecks.codes import Code, check_bit, check_lot, check_number, check_prices, check_row, check_word
from letbychecks.errors import BadBit, BadCode, BadLot, BadPrices, BadRow, BadWord, NoCheck
from tests.helpers import FIVE, HALF_ROW, ODD_THINGS, Raises


class Codes(Raises, unittest.TestCase):
    def test_bits(self):
        for bits in (1, 2, 9, 10):
            self.assertEqual(Code(bits, []).bits, bits)
        for bits in (0, 11, -1, True, False, None, 2.0, "2", (2,), 10 ** 40):
            self.fails(BadCode, ["bits", -1], Code, bits, [])
            self.fails(BadCode, ["bits", -1], Code, bits, None)

    def test_many(self):
        self.assertEqual(len(Code(2, [(0,)] * 63)), 63)
        self.assertEqual(len(Code(2, ())), 0)
        self.fails(BadCode, ["many", -1], Code, 2, [(0,)] * 64)
        self.fails(BadCode, ["many", -1], Code, 2, [None] * 64)
        for checks in (None, 3, "01", {}, {0: (0,)}, {(0,)}, iter([]), True, b""):
            self.fails(BadCode, ["many", -1], Code, 2, checks)

    def test_checks(self):
        wrong = ((), [], (0, 0), (0, 3), (-1,), (True,), (0, True), (0, None), (1.0,), "01", None, 0, {0, 1}, {0: 1},
                 ((0,),), [[0], [0]], (0, 1, 2, 0), b"")
        for check in wrong:
            self.fails(BadCode, ["check", 0], Code, 3, [check])
            self.fails(BadCode, ["check", 2], Code, 3, ((0, 1), [2], check, ()))

    def test_attributes(self):
        code = Code(4, [[3, 0], (1,), (2, 1, 0), [3, 0]])
        self.assertEqual(code.bits, 4)
        self.assertEqual(code.checks, ((0, 3), (1,), (0, 1, 2), (0, 3)))
        self.assertEqual([type(check) for check in code.checks], [tuple] * 4)
        self.assertIs(type(code.checks), tuple)
        self.assertEqual(len(code), 4)
        self.assertEqual(Code(bits=1, checks=[[0]]).checks, ((0,),))
        self.assertEqual(len(Code(10, [range_lot(10)]).checks[0]), 10)

    def test_equal(self):
        self.assertTrue(Code(2, [[1, 0]]) == Code(2, [[0, 1]]))
        self.assertFalse(Code(2, [[1, 0]]) != Code(2, ((0, 1),)))
        self.assertTrue(Code(2, [[0]]) != Code(3, [[0]]))
        self.assertFalse(Code(2, [[0]]) == Code(3, [[0]]))
        self.assertFalse(Code(2, [[0], [1]]) == Code(2, [[1], [0]]))
        self.assertFalse(Code(2, [[0]]) == Code(2, [[0], [0]]))
        self.assertTrue(Code(1, []) == Code(1, ()))

    def test_never_equal_to_another_thing(self):
        class Alike:
            bits = 2
            checks = ((0, 1),)

            def __eq__(self, other):
                return True

        code = Code(2, [(0, 1)])
        for thing in (*ODD_THINGS, (2, ((0, 1),)), Alike(), Code, 2, ((0, 1),)):
            self.assertFalse(code == thing)
            self.assertTrue(code != thing)

    def test_keeps_nothing_of_lists(self):
        check = [1, 0]
        checks = [check, [2]]
        code = Code(3, checks)
        self.assertEqual((checks, check), ([[1, 0], [2]], [1, 0]))
        check.append(2)
        checks.append([0])
        self.assertEqual(code, Code(3, [(0, 1), (2,)]))


def range_lot(many):
    """The lot of all bits, the last one first."""
    return list(range(many))[::-1]


class Checks(Raises, unittest.TestCase):
    def test_bit(self):
        for bit in range(5):
            self.assertEqual(check_bit(FIVE, bit), bit)
        for bit in (-1, 5, True, False, None, 1.0, "1", (1,), 10 ** 60):
            self.fails(BadBit, [bit], check_bit, FIVE, bit)

    def test_number(self):
        for number in range(4):
            self.assertEqual(check_number(FIVE, number), number)
        for number in (-1, 4, True, False, None, 1.0, "1", (1,), 10 ** 60):
            self.fails(NoCheck, [number], check_number, FIVE, number)
        self.fails(NoCheck, [0], check_number, Code(3, []), 0)

    def test_lot(self):
        for lot in ((), [], (0,), [4, 2, 0], (4, 3, 2, 1, 0)):
            self.assertEqual(check_lot(FIVE, lot), tuple(sorted(lot)))
            self.assertIs(type(check_lot(FIVE, lot)), tuple)
        for lot in (None, 0, "01", {0}, (0, 0), (5,), (-1,), (True,), (0, False), (None,), [[0]], (1.0,), {0: 0},
                    (0, 1, 2, 3, 4, 0), ("0",)):
            self.fails(BadLot, [], check_lot, FIVE, lot)

    def test_lot_is_not_changed(self):
        lot = [4, 2, 0]
        check_lot(FIVE, lot)
        self.assertEqual(lot, [4, 2, 0])

    def test_prices(self):
        for prices in ((0, 0, 0, 0, 0), [-99, 99, 1, -1, 0]):
            self.assertEqual(check_prices(FIVE, prices), tuple(prices))
            self.assertIs(type(check_prices(FIVE, prices)), tuple)
        for prices in (None, 5, "00000", (), (0,) * 4, [0] * 6, {}, {0: 1, 1: 1, 2: 1, 3: 1, 4: 1}):
            self.fails(BadPrices, [-1], check_prices, FIVE, prices)
        for price in (100, -100, True, False, None, 1.0, "1", (1, 1), 10 ** 60):
            for place in range(5):
                prices = [0] * place + [price] * (5 - place)
                self.fails(BadPrices, [place], check_prices, FIVE, prices)

    def test_row(self):
        self.assertEqual(check_row(FIVE, list(HALF_ROW)), HALF_ROW)
        self.assertIs(type(check_row(FIVE, list(HALF_ROW))), tuple)
        for row in (None, 5, "00000", (), HALF_ROW[:4], HALF_ROW + ((0, 1),), {}):
            self.fails(BadRow, [-1], check_row, FIVE, row)
        for share in (0, 1, True, None, [1, 2], (2, 4), (3, 2), (-1, 2), (0, 2), (1, 0), (True, 1), 0.5, "1/2", ()):
            for place in range(5):
                row = HALF_ROW[:place] + (share,) * (5 - place)
                self.fails(BadRow, [place], check_row, FIVE, row)

    def test_word(self):
        self.assertEqual(check_word(FIVE, [1, 1, 0, 0, 0]), (1, 1, 0, 0, 0))
        self.assertEqual(check_word(FIVE, (0,) * 5), (0,) * 5)
        for word in (None, 5, "00000", (), (0,) * 4, [0] * 6, (0, 0, 0, 0, 2), (True, 1, 0, 0, 0), (0, 0, 0, 0, False),
                     (1.0, 1, 0, 0, 0), (None,) * 5, (1, 0, 0, 0, -1), {}):
            self.fails(BadWord, [-1], check_word, FIVE, word)
        for word, number in (((1, 0, 0, 0, 0), 0), ((1, 1, 1, 0, 0), 1), ((0, 0, 0, 1, 0), 2), ((1, 0, 1, 1, 1), 0),
                             ((0, 0, 1, 0, 1), 1)):
            self.fails(BadWord, [number], check_word, FIVE, word)
        self.fails(BadWord, [1], check_word, Code(2, [[0], [1], [1]]), (0, 1))


if __name__ == "__main__":
    unittest.main()
