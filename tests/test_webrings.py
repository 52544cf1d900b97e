"""Tests of letbychecks.webrings: [1.8]."""

import unittest
from itertools import combinations

from letbychecks.codes import Code
from letbychecks.webrings import code_pieces, ring_fault, web_ring
from tests.helpers import FIVE, some_codes

RINGLESS = [Code(1, []), Code(3, []), Code(3, [(0, 1, 2)]), Code(4, [(0, 1), (1, 2), (2, 3)]), Code(2, [(0,), (0,)]),
            Code(5, [(0, 1, 2), (2, 3, 4), (4,), (3,), (4,)]), Code(10, [(0, bit) for bit in range(1, 10)])]
RINGED = [FIVE, Code(2, [(0, 1), (0, 1)]), Code(3, [(0, 1), (1, 2), (0, 2)]), Code(4, [(0, 1, 2), (1, 2, 3)]),
          Code(10, [(bit, (bit + 1) % 10) for bit in range(10)]), Code(6, [(5,), (0, 1), (3, 4), (5, 3), (4, 5)])]
CODES = RINGLESS + RINGED + some_codes(18, 200, 8, 6)


def pieces_by_hand(code):
    """The pieces, found by growing each bit's piece until nothing comes to it."""
    pieces = []
    for bit in range(code.bits):
        piece = {bit}
        for _ in range(code.bits):
            for check in code.checks:
                if piece & set(check):
                    piece |= set(check)
        pieces.append(tuple(sorted(piece)))
    return tuple(sorted(set(pieces)))


def has_ring_by_hand(code):
    """A web has no ring exactly if each part of it has fewer links than places."""
    places = code.bits + len(code)
    links = sum(len(check) for check in code.checks)
    return links > places - len(pieces_by_hand(code))


class Pieces(unittest.TestCase):
    def test_pieces(self):
        for code in CODES:
            self.assertEqual(code_pieces(code), pieces_by_hand(code))

    def test_examples(self):
        self.assertEqual(code_pieces(Code(3, [])), ((0,), (1,), (2,)))
        self.assertEqual(code_pieces(FIVE), ((0, 1, 2, 3, 4),))
        self.assertEqual(code_pieces(Code(6, [(5, 1), (3, 0), (4,), (4, 3)])), ((0, 3, 4), (1, 5), (2,)))
        self.assertEqual(code_pieces(Code(3, [(0, 1), (0, 1), (2,)])), ((0, 1), (2,)))


class Rings(unittest.TestCase):
    def test_ringless(self):
        for code in RINGLESS:
            self.assertIsNone(web_ring(code))

    def test_rings_have_no_fault(self):
        for code in RINGED:
            self.assertIsNotNone(web_ring(code))
        for code in CODES:
            ring = web_ring(code)
            self.assertEqual(ring is not None, has_ring_by_hand(code))
            if ring is not None:
                self.assertIs(type(ring), tuple)
                self.assertIsNone(ring_fault(code, ring))
                self.assertIsNone(ring_fault(code, list(ring)))

    def test_judged_rings(self):
        for ring in ((0, 0, 1, 1), (1, 0, 0, 1), [0, 1, 1, 0], (3, 2, 4, 3), (4, 2, 3, 3)):
            self.assertIsNone(ring_fault(FIVE, ring))
        longer = Code(3, [(0, 1), (1, 2), (0, 2)])
        self.assertIsNone(ring_fault(longer, (0, 0, 1, 1, 2, 2)))
        self.assertIsNone(ring_fault(longer, (2, 1, 1, 0, 0, 2)))
        self.assertEqual(ring_fault(longer, (0, 1, 1, 0, 2, 2)), "wire")

    def test_alike_checks_and_two_common_bits(self):
        self.assertEqual(len(web_ring(Code(2, [(0, 1), (0, 1)]))), 4)
        self.assertIsNone(ring_fault(Code(4, [(0, 1, 2), (1, 2, 3)]), (1, 0, 2, 1)))
        for first, second in combinations(range(4), 2):
            code = Code(4, [(first, second), (0, 1, 2, 3)])
            self.assertIsNone(ring_fault(code, (first, 0, second, 1)))

    def test_form(self):
        wrong = (None, 5, "0011", (), (0,), (0, 0), (0, 0, 1), (0, 0, 1, 1, 2), {0, 1}, (0, 0, 0, 1), (0, 0, 1, 0),
                 (5, 0, 1, 1), (0, 4, 1, 1), (-1, 0, 1, 1), (0, -1, 1, 1), (True, 0, 0, 1), (0, True, 1, 0),
                 (0, 0, 1, None), (0.0, 0, 1, 1), ([0], 0, 1, 1), (0, 0, 1, 1, 0, 2), (0, 0, 1, 1, 2, 1),
                 (0, 0, 2, 1, 0, 3), ((0, 0), (1, 1)), (0, 0, 1, False), (0, 0, None, 1))
        for thing in wrong:
            self.assertEqual(ring_fault(FIVE, thing), "form", thing)

    def test_wire(self):
        for ring in ((0, 0, 2, 1), (2, 0, 1, 1), (0, 0, 1, 2), (0, 2, 1, 0), (3, 0, 4, 3), (0, 1, 2, 2), (2, 1, 0, 2)):
            self.assertEqual(ring_fault(FIVE, ring), "wire")

    def test_form_ahead_of_wire(self):
        self.assertEqual(ring_fault(FIVE, (0, 3, 1, 3)), "form")
        self.assertEqual(ring_fault(FIVE, (0, 3, 0, 2)), "form")
        self.assertEqual(ring_fault(FIVE, (0, 3, 1, 9)), "form")


if __name__ == "__main__":
    unittest.main()
