"""Tests of letbychecks.peeling: [6.4], [6.5], [6.6], [6.7], [6.8]."""

import unittest
from fractions import Fraction
from itertools import permutations
from random import Random

from letbychecks.cheapest import is_sole, share_range
from letbychecks.codes import Code
from letbychecks.errors import BadLot, BadOrder
from letbychecks.flips import greatest_flips
from letbychecks.peeling import Erased, Peeled, Waves, greatest_erased, least_hints, peel_erased, peel_fault, peel_waves
from tests.helpers import FIVE, Raises, lots_of, some_codes, sums_by_hand

THREE = Code(3, [(0, 1), (0, 2), (0, 1, 2)])
RING = Code(3, [(0, 1), (1, 2), (0, 2)])
CHAIN = Code(10, [(bit, bit + 1) for bit in range(9)])
BARE = Code(3, [(0,), (0, 1), (0, 1, 2)])
WRONG_LOTS = (None, "0", 0, (5,), (0, 0), (True,), (-1,), [[0]], {0}, (None,))


def peeled_by_hand(code, lot, order):
    """The steps and what is left."""
    erased = set(lot)
    steps = []
    while True:
        told = next(((number, min(erased & set(code.checks[number]))) for number in order
                     if len(erased & set(code.checks[number])) == 1), None)
        if told is None:
            return tuple(steps), tuple(sorted(erased))
        steps.append(told)
        erased.remove(told[1])


def some_lots(random, code, many):
    """Some lots of the code, ascending each."""
    return random.sample(lots_of(range(code.bits)), min(many, 1 << code.bits))


def codes():
    """Codes by chance and those at the edges."""
    return (some_codes(611, 60, 6, 5) + some_codes(612, 10, 10, 8)
            + [FIVE, THREE, RING, CHAIN, BARE, Code(1, []), Code(1, [(0,)]), Code(10, []), Code(3, [(0, 1)] * 3)])


class PeelErased(Raises, unittest.TestCase):
    def judged(self, peeled, told):
        """The result is this couple of steps and lot."""
        self.assertIs(type(peeled), Peeled)
        self.assertEqual((peeled.steps, peeled.left), told)
        self.assertEqual({type(peeled.steps), type(peeled.left)} | {type(step) for step in peeled.steps}, {tuple})
        self.assertIs(peeled.ended, peeled.left == ())
        self.assertEqual(list(peeled), list(peeled.steps))
        self.assertEqual([number for number, _ in peeled], [number for number, _ in told[0]])

    def test_chance(self):
        random = Random(613)
        ends = {True: 0, False: 0}
        for code in codes():
            for lot in some_lots(random, code, 10):
                numbers = list(range(len(code)))
                told = peeled_by_hand(code, lot, numbers)
                given = random.sample(lot, len(lot))
                self.judged(peel_erased(code, given), told)
                self.judged(peel_erased(code, lot, order=None), told)
                random.shuffle(numbers)
                ordered = peel_erased(code, given, order=numbers)
                self.judged(ordered, peeled_by_hand(code, lot, numbers))
                self.judged(peel_erased(code, lot, order=tuple(numbers)), peeled_by_hand(code, lot, numbers))
                self.assertEqual(ordered.left, told[1])
                ends[ordered.ended] += 1
        self.assertGreater(min(ends.values()), 100)

    def test_examples(self):
        """[6.13]"""
        self.judged(peel_erased(FIVE, (0, 1, 2)), (((2, 2),), (0, 1)))
        self.judged(peel_erased(THREE, (0, 1, 2)), ((), (0, 1, 2)))
        self.judged(peel_erased(CHAIN, (1, 3)), (((0, 1), (2, 3)), ()))
        self.judged(peel_erased(CHAIN, (1, 3), order=(8, 7, 6, 5, 4, 3, 2, 1, 0)), (((3, 3), (1, 1)), ()))
        self.judged(peel_erased(BARE, [2, 1, 0]), (((0, 0), (1, 1), (2, 2)), ()))
        self.judged(peel_erased(FIVE, ()), ((), ()))
        self.judged(peel_erased(Code(2, []), (1,), order=()), ((), (1,)))

    def test_an_order_is_begun_anew_in_each_step(self):
        code = Code(3, [(0, 1, 2), (0, 1), (0,)])
        self.judged(peel_erased(code, (0, 1, 2), order=(0, 1, 2)), (((2, 0), (1, 1), (0, 2)), ()))

    def test_wrong_orders(self):
        for order in ((0, 1, 2), (0, 1, 2, 2), (0, 1, 2, 4), (0, 1, 2, True), "0123", 5, {}, (0, 1, 2, 3, 3), (),
                      (-1, 0, 1, 2), False, (None,) * 4):
            self.fails(BadOrder, [], peel_erased, FIVE, (0, 1), order=order)
            self.fails(BadLot, [], peel_erased, FIVE, (0, 9), order=order)
        for lot in WRONG_LOTS:
            self.fails(BadLot, [], peel_erased, FIVE, lot)

    def test_result(self):
        thing = [1, 2]
        self.assertEqual(list(vars(Peeled(left=(), steps=thing)).items()), [("steps", thing), ("left", ())])
        self.assertIs(Peeled(thing, ()).steps, thing)
        self.assertEqual(list(Peeled(thing, ())), thing)
        self.assertIs(Peeled((), (0,)).ended, False)
        self.assertIs(Peeled((), ()).ended, True)
        self.assertIsInstance(vars(Peeled)["ended"], property)
        self.assertIn("__iter__", vars(Peeled))
        self.assertFalse(Peeled((), ()) == Peeled((), ()))


class PeelFault(Raises, unittest.TestCase):
    def test_steps_in_any_order(self):
        random = Random(614)
        for code in codes():
            for lot in some_lots(random, code, 5):
                steps = peeled_by_hand(code, lot, range(len(code)))[0]
                self.assertIsNone(peel_fault(code, random.sample(lot, len(lot)), steps))
                for many in range(len(steps)):
                    self.assertIsNone(peel_fault(code, lot, list(steps)[:many]))
                mixed = random.sample(steps, len(steps))
                self.assertEqual(peel_fault(code, lot, mixed), self.fault_by_hand(code, lot, mixed))

    def fault_by_hand(self, code, lot, steps):
        """What peel_fault must return for couples of numbers and bits."""
        erased = set(lot)
        for index, (number, bit) in enumerate(steps):
            if erased & set(code.checks[number]) != {bit}:
                return index
            erased.remove(bit)
        return None

    def test_all_orders(self):
        steps = ((0, 0), (1, 1), (2, 2))
        for order in permutations(steps):
            self.assertEqual(peel_fault(BARE, (0, 1, 2), order), self.fault_by_hand(BARE, (0, 1, 2), order))
        self.assertIsNone(peel_fault(CHAIN, (1, 3), [(2, 3), (0, 1)]))
        self.assertIsNone(peel_fault(CHAIN, (1, 3), [[3, 3], [1, 1]]))

    def test_no_steps(self):
        for step in (None, 5, "ab", (), (2,), (2, 2, 2), (True, 1), (2, True), (None, 2), (2, None), (4, 2), (-1, 2),
                     (2.0, 2), (2, 2.0), (0, 2), (1, 2), (2, 3), (2, 0), ("2", 2), (3, 2), ((2,), 2), {}):
            self.assertEqual(peel_fault(FIVE, (0, 1, 2), [step]), 0, step)
            self.assertEqual(peel_fault(FIVE, (0, 1, 2), ((2, 2), step)), 1, step)
        self.assertEqual(peel_fault(FIVE, (0, 1, 2), ((2, 2), (2, 2))), 1)
        self.assertEqual(peel_fault(FIVE, (3,), ((-1, 3),)), 0)
        self.assertIsNone(peel_fault(FIVE, (0, 1, 2), ((2, 2),)))
        self.assertIsNone(peel_fault(FIVE, (0, 1, 2), []))
        self.assertEqual(peel_fault(CHAIN, (1,), [(0, True)]), 0)
        self.assertEqual(peel_fault(CHAIN, (1,), [(True, 1)]), 0)
        self.assertIsNone(peel_fault(CHAIN, (1,), [(1, 1)]))
        self.assertEqual(peel_fault(CHAIN, (0,), [(0, False)]), 0)
        self.assertEqual(peel_fault(CHAIN, (0,), [(False, 0)]), 0)

    def test_wrong_lots(self):
        for lot in WRONG_LOTS:
            self.fails(BadLot, [], peel_fault, FIVE, lot, ())
            self.fails(BadLot, [], peel_waves, FIVE, lot)
            self.fails(BadLot, [], least_hints, FIVE, lot)


class PeelWaves(unittest.TestCase):
    def waves_by_hand(self, code, lot):
        """The waves and what is left."""
        erased, waves = set(lot), []
        while True:
            wave = [bit for bit in sorted(erased) if any(erased & set(check) == {bit} for check in code.checks)]
            if not wave:
                return tuple(waves), tuple(sorted(erased))
            waves.append(tuple(wave))
            erased -= set(wave)

    def test_chance(self):
        random = Random(615)
        many = set()
        for code in codes():
            for lot in some_lots(random, code, 10):
                told = peel_waves(code, random.sample(lot, len(lot)))
                self.assertIs(type(told), Waves)
                self.assertEqual((told.waves, told.left), self.waves_by_hand(code, lot))
                self.assertTrue(all(type(wave) is tuple and wave for wave in told.waves))
                many.add(len(told.waves))
        self.assertGreaterEqual(many, {0, 1, 2, 3})

    def test_plain_ones(self):
        told = peel_waves(CHAIN, (0, 1, 2, 3, 5, 6, 7))
        self.assertEqual((told.waves, told.left), (((3, 5, 7), (2, 6), (1,), (0,)), ()))
        told = peel_waves(BARE, (2, 1, 0))
        self.assertEqual((told.waves, told.left), (((0,), (1,), (2,)), ()))
        told = peel_waves(THREE, (0, 1, 2))
        self.assertEqual((told.waves, told.left), ((), (0, 1, 2)))
        self.assertEqual(peel_waves(Code(2, [(0,), (0,), (0, 1)]), (0,)).waves, ((0,),))
        self.assertEqual(peel_waves(FIVE, ()).waves, ())

    def test_all_sum_checks_need_one_wave(self):
        for code in some_codes(616, 40, 6, 4):
            full = Code(code.bits, sums_by_hand(code))
            for lot in lots_of(range(code.bits)):
                self.assertLessEqual(len(peel_waves(full, lot).waves), 1)

    def test_result(self):
        self.assertEqual(list(vars(Waves(left=2, waves=1)).items()), [("waves", 1), ("left", 2)])


class Hints(unittest.TestCase):
    def ends(self, code, lot):
        """Whether peeling ends."""
        return peeled_by_hand(code, lot, range(len(code)))[1] == ()

    def test_least_hints(self):
        random = Random(617)
        manys = set()
        for code in codes():
            if code.bits <= 6:
                for lot in some_lots(random, code, 8):
                    told = next(hints for hints in lots_of(lot)
                                if self.ends(code, [bit for bit in lot if bit not in hints]))
                    self.assertEqual(least_hints(code, random.sample(lot, len(lot))), told)
                    manys.add(len(told))
        self.assertGreaterEqual(manys, {0, 1, 2, 3})

    def test_plain_hints(self):
        self.assertEqual(least_hints(THREE, (0, 1, 2)), (0,))
        self.assertEqual(least_hints(FIVE, (0, 1, 2, 3, 4)), (0, 3))
        self.assertEqual(least_hints(FIVE, [4, 2, 1]), ())
        self.assertEqual(least_hints(FIVE, ()), ())
        self.assertEqual(least_hints(Code(10, []), tuple(range(10))), tuple(range(10)))
        self.assertEqual(least_hints(CHAIN, tuple(range(10))), (0,))
        self.assertEqual(least_hints(Code(3, [(0, 1)]), (2, 1, 0)), (0, 2))

    def test_greatest_erased(self):
        nones = 0
        for code in codes():
            bits = range(code.bits)
            bad = next((lot for lot in lots_of(bits) if not self.ends(code, lot)), None)
            told = greatest_erased(code)
            self.assertIs(type(told), Erased)
            self.assertEqual((told.many, told.lot), (code.bits, None) if bad is None else (len(bad) - 1, bad))
            nones += bad is None
            if bad is not None:
                self.assertLessEqual(2 * greatest_flips(code).many, told.many)
        self.assertGreater(nones, 3)

    def test_plain_greatest(self):
        for code, many, lot in ((THREE, 2, (0, 1, 2)), (FIVE, 1, (0, 1)), (BARE, 3, None), (Code(1, []), 0, (0,)),
                                (Code(1, [(0,)]), 1, None), (CHAIN, 9, tuple(range(10)))):
            told = greatest_erased(code)
            self.assertEqual((told.many, told.lot), (many, lot))
        self.assertEqual(list(vars(Erased(lot=2, many=1)).items()), [("many", 1), ("lot", 2)])

    def test_half_of_a_stop_lot(self):
        """[6.7]: twice the flips that are mended are at most the erasures, unless all lots are mended."""
        for code in some_codes(618, 60, 7, 6):
            erased = greatest_erased(code)
            if erased.lot is not None:
                self.assertLessEqual(2 * greatest_flips(code).many, erased.many)


class CheapestRows(unittest.TestCase):
    """[6.8]"""

    def test_price_0_on_the_lot(self):
        random = Random(619)
        for code in some_codes(620, 50, 6, 5):
            for lot in some_lots(random, code, 4):
                prices = [0 if bit in lot else 1 for bit in range(code.bits)]
                left = peel_erased(code, lot).left
                self.assertEqual(is_sole(code, prices), left == ())
                for bit in range(code.bits):
                    span = share_range(code, prices, bit)
                    self.assertEqual(span.low.share, (0, 1))
                    self.assertTrue(span.high.share == (0, 1) if bit not in left
                                    else Fraction(*span.high.share) >= Fraction(1, 2))


if __name__ == "__main__":
    unittest.main()
