"""Tests of letbychecks.covers: [0.9], [3.1], [3.2], [3.3], [3.4]."""

import unittest
from random import Random

from letbychecks.codes import Code
from letbychecks.covers import Cover, cover_code, cover_pieces, crossed_wire, joined_covers, plain_cover
from letbychecks.errors import BadCover, BadWire, NoCheck, TooMany, UnlikeCode
from letbychecks.webrings import code_pieces, web_ring
from tests.helpers import FIVE, ODD_THINGS, Raises, some_codes, some_cover

PAIR = Code(3, [(0, 2), (1,)])
WIRES = (((0, 1), (1, 0)), ((1, 0),))
CHAIN = Code(5, [(0, 1, 2), (2, 3)])


def pieces_by_hand(cover):
    """The pieces, grown from each copy until nothing comes to them."""
    seen = [{(bit, wire[sheet]) for bit, wire in zip(check, wiring)}
            for check, wiring in zip(cover.code.checks, cover.wires) for sheet in range(cover.sheets)]
    pieces = {}
    for bit in range(cover.code.bits):
        for copy in range(cover.sheets):
            piece, old = {(bit, copy)}, None
            while piece != old:
                old = set(piece)
                for lot in seen:
                    if piece & lot:
                        piece |= lot
            pieces[tuple(sorted(piece))] = True
    return tuple(sorted(pieces))


class Covers(Raises, unittest.TestCase):
    def test_attributes(self):
        cover = Cover(PAIR, 2, [[[0, 1], (1, 0)], [[1, 0]]])
        self.assertEqual((cover.code, cover.sheets, cover.wires), (PAIR, 2, WIRES))
        self.assertEqual({type(cover.wires), type(cover.wires[0]), type(cover.wires[0][0])}, {tuple})
        self.assertEqual(Cover(code=PAIR, sheets=2, wires=WIRES), cover)

    def test_keeps_nothing_of_lists(self):
        wire = [0, 1]
        wiring = [wire, [1, 0]]
        wires = [wiring, [[1, 0]]]
        cover = Cover(PAIR, 2, wires)
        wire.reverse()
        wiring.append([0, 1])
        wires.append([])
        self.assertEqual(cover.wires, WIRES)

    def test_sheets(self):
        for sheets in (1, 2, 240):
            self.assertEqual(Cover(Code(2, []), sheets, []).sheets, sheets)
        for sheets in (0, 241, -1, True, None, 2.0, "2", (2,)):
            self.fails(BadCover, ["sheets", -1], Cover, PAIR, sheets, None)
            self.fails(BadCover, ["sheets", -1], plain_cover, PAIR, sheets)

    def test_many(self):
        for wires in (None, 5, (), WIRES[:1], WIRES + WIRES[1:], "ab", {}, {0: WIRES[0], 1: WIRES[1]}):
            self.fails(BadCover, ["many", -1], Cover, PAIR, 2, wires)
        self.fails(BadCover, ["many", -1], Cover, PAIR, 2, [None])

    def test_wires(self):
        for wiring in (None, 5, (), ((0, 1),), ((0, 1),) * 3, ((0, 1), None), ((0, 1), (0,)), ((0, 0), (0, 1)),
                       ((0, 1), (1, 1)), ((0, 2), (0, 1)), ((0, 1), (-1, 0)), ((0, True), (0, 1)), ((0, 1), "01"),
                       ((0, 1), (0, 1, 1)), ((0, 1), (0, 1.0)), ((0, 1), {0, 1}), ([0, [1]], (0, 1)), "ab",
                       ((0, 1), (False, 1))):
            self.fails(BadCover, ["wire", 0], Cover, PAIR, 2, [wiring, None])
            self.fails(BadCover, ["wire", 1], Cover, Code(3, [(1,), (0, 2)]), 2, [[[1, 0]], wiring])

    def test_equal(self):
        cover = Cover(PAIR, 2, WIRES)
        self.assertTrue(cover == Cover(Code(3, [[2, 0], [1]]), 2, [list(wiring) for wiring in WIRES]))
        self.assertFalse(cover != Cover(PAIR, 2, WIRES))
        self.assertTrue(cover != plain_cover(PAIR, 2))
        self.assertFalse(cover == plain_cover(PAIR, 2))
        self.assertFalse(plain_cover(PAIR, 2) == plain_cover(PAIR, 3))
        self.assertFalse(plain_cover(Code(2, []), 2) == plain_cover(Code(2, []), 3))
        self.assertFalse(plain_cover(Code(2, []), 2) == plain_cover(Code(3, []), 2))
        self.assertFalse(plain_cover(Code(2, [(0,)]), 2) == plain_cover(Code(2, [(1,)]), 2))
        for thing in (*ODD_THINGS, PAIR, (PAIR, 2, WIRES), WIRES, Cover):
            self.assertFalse(cover == thing)
            self.assertTrue(cover != thing)


class Made(Raises, unittest.TestCase):
    def test_plain(self):
        self.assertEqual(plain_cover(PAIR, 2), Cover(PAIR, 2, [[(0, 1), (0, 1)], [(0, 1)]]))
        self.assertEqual(plain_cover(PAIR, 1), Cover(PAIR, 1, [[(0,), (0,)], [(0,)]]))
        self.assertEqual(plain_cover(Code(1, [(0,)]), 240).wires, ((tuple(range(240)),),))

    def test_crossed(self):
        cover = Cover(PAIR, 3, [[(2, 0, 1), (1, 0, 2)], [(0, 1, 2)]])
        crossed = crossed_wire(cover, 0, 2, 0, 2)
        self.assertEqual(crossed, Cover(PAIR, 3, [[(2, 0, 1), (1, 2, 0)], [(0, 1, 2)]]))
        self.assertEqual(crossed_wire(cover, 0, 2, 2, 0), crossed)
        self.assertEqual(crossed_wire(crossed, 0, 2, 0, 2), cover)
        self.assertEqual(crossed_wire(cover, 0, 0, 1, 2).wires[0], ((1, 0, 2), (1, 0, 2)))
        self.assertEqual(crossed_wire(cover, 1, 1, 1, 0).wires, (cover.wires[0], ((1, 0, 2),)))
        self.assertEqual(cover.wires[0], ((2, 0, 1), (1, 0, 2)))

    def test_wrong_crossings(self):
        cover = plain_cover(PAIR, 3)
        for number in (-1, 2, True, None, "0"):
            self.fails(NoCheck, [number], crossed_wire, cover, number, None, None, None)
        for bit in (1, 3, -1, True, None, 0.0, "0", (0,)):
            self.fails(BadWire, [], crossed_wire, cover, 0, bit, 0, 1)
        for one, other in ((0, 0), (0, 3), (3, 0), (-1, 0), (0, -1), (True, 0), (0, True), (None, 0), (0, None),
                           (0.0, 1), (0, 1.0), ("0", 1), ((0,), 1), (0, [1]), (2, 2)):
            self.fails(BadWire, [], crossed_wire, cover, 0, 2, one, other)
        self.fails(BadWire, [], crossed_wire, plain_cover(PAIR, 1), 0, 0, 0, 0)

    def test_joined(self):
        one = Cover(PAIR, 2, WIRES)
        other = Cover(PAIR, 3, [[(2, 0, 1), (1, 0, 2)], [(0, 1, 2)]])
        joined = joined_covers(one, other)
        self.assertEqual(joined, Cover(PAIR, 5, [[(0, 1, 4, 2, 3), (1, 0, 3, 2, 4)], [(1, 0, 2, 3, 4)]]))
        self.assertNotEqual(joined_covers(other, one), joined)
        self.assertEqual(joined_covers(plain_cover(PAIR, 100), plain_cover(PAIR, 140)), plain_cover(PAIR, 240))

    def test_wrong_joins(self):
        self.fails(TooMany, [240], joined_covers, plain_cover(PAIR, 101), plain_cover(PAIR, 140))
        self.fails(UnlikeCode, [], joined_covers, plain_cover(PAIR, 2), plain_cover(FIVE, 2))
        self.fails(UnlikeCode, [], joined_covers, plain_cover(PAIR, 200), plain_cover(FIVE, 200))
        self.fails(UnlikeCode, [], joined_covers, plain_cover(Code(3, []), 1), plain_cover(Code(2, []), 1))


class CoverCodes(Raises, unittest.TestCase):
    def test_example(self):
        code = cover_code(Cover(PAIR, 2, WIRES))
        self.assertEqual(code, Code(6, [(0, 5), (1, 4), (3,), (2,)]))
        self.assertEqual(cover_code(plain_cover(FIVE, 1)), FIVE)
        self.assertEqual(cover_code(Cover(Code(2, []), 2, ())), Code(4, []))

    def test_chance(self):
        random = Random(61)
        for code in some_codes(62, 60, 5, 4):
            cover = some_cover(random, code, random.randint(1, 10 // code.bits))
            sheets = cover.sheets
            checks = [[bit * sheets + cover.wires[number][place][sheet] for place, bit in enumerate(check)]
                      for number, check in enumerate(code.checks) for sheet in range(sheets)]
            self.assertEqual(cover_code(cover), Code(code.bits * sheets, checks))

    def test_too_many(self):
        self.assertEqual(cover_code(plain_cover(FIVE, 2)).bits, 10)
        self.fails(TooMany, [10], cover_code, plain_cover(FIVE, 3))
        self.fails(TooMany, [10], cover_code, plain_cover(Code(1, [(0,)]), 11))
        self.assertEqual(len(cover_code(plain_cover(Code(3, [(0,)] * 21), 3))), 63)
        self.fails(TooMany, [63], cover_code, plain_cover(Code(1, [(0,)] * 8), 8))
        self.fails(TooMany, [10], cover_code, plain_cover(Code(6, [(0,)] * 63), 2))
        self.fails(TooMany, [63], cover_code, plain_cover(Code(5, [(0,)] * 32), 2))


class Pieces(unittest.TestCase):
    def test_chance(self):
        random = Random(63)
        for code in some_codes(64, 80, 6, 4):
            cover = some_cover(random, code, random.randint(1, 4))
            pieces = cover_pieces(cover)
            self.assertEqual(pieces, pieces_by_hand(cover))
            for piece in pieces:
                for lot in code_pieces(code):
                    counts = {sum(bit == mine for mine, _ in piece) for bit in lot}
                    self.assertEqual(len(counts), 1)

    def test_example(self):
        self.assertEqual(cover_pieces(Cover(PAIR, 2, WIRES)),
                         (((0, 0), (2, 1)), ((0, 1), (2, 0)), ((1, 0),), ((1, 1),)))

    def test_crossing_one_wire(self):
        for code in (FIVE, CHAIN, *some_codes(65, 40, 6, 4)):
            plain = plain_cover(code, 2)
            twice = 2 * len(code_pieces(code))
            self.assertEqual(len(cover_pieces(plain)), twice)
            joins = 0
            for number, check in enumerate(code.checks):
                for bit in check:
                    many = len(cover_pieces(crossed_wire(plain, number, bit, 0, 1)))
                    self.assertIn(many, (twice, twice - 1))
                    joins += many < twice
            self.assertEqual(joins == 0, web_ring(code) is None)

    def test_ringless(self):
        random = Random(66)
        for sheets in (1, 2, 5):
            pieces = cover_pieces(some_cover(random, CHAIN, sheets))
            self.assertEqual(len(pieces), sheets * len(code_pieces(CHAIN)))
            for piece in pieces:
                self.assertIn(tuple(bit for bit, _ in piece), code_pieces(CHAIN))

    def test_great(self):
        code = Code(10, [tuple(range(10))] * 63)
        self.assertEqual(len(cover_pieces(plain_cover(code, 240))), 240)


if __name__ == "__main__":
    unittest.main()
