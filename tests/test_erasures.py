"""Tests of letbychecks.erasures: [6.9], [6.10], [6.11], [6.12], [6.13]."""

import inspect
import unittest
from fractions import Fraction
from random import Random

from letbychecks.cheapest import cheapest_let, is_sole
from letbychecks.codes import Code
from letbychecks.erasures import Clash, Filled, Left, NoWord, Several, both_fault, check_erased, erased_lot, fill_best
from letbychecks.erasures import fill_erased, first_gap, fitting_words, mend_erased, received_prices, sure_bits
from letbychecks.errors import BadLot, BadReceived
from letbychecks.mending import Mended, Unsure
from letbychecks.peeling import least_hints, peel_erased
from letbychecks.stops import greatest_stop
from tests.helpers import FIVE, Raises, cone_rules_by_hand, digit_costs, fault_by_hand, fractions, keeps_rules, lots_of
from tests.helpers import some_codes, sums_by_hand, words_by_hand

THREE = Code(3, [(0, 1), (0, 2), (0, 1, 2)])
RING = Code(3, [(0, 1), (1, 2), (0, 2)])
WRONG = ((None, -1), ((), -1), ((0,) * 4, -1), ("00000", -1), ((0, 0, 2, 0, True), 2), ((0, True, 0, 0, 0), 1),
         ([0, 0, 0, 0, "0"], 4), ((False,) * 5, 0), ((0, None, -1, 0, 0), 2), ((0, 0, 0, 1.0, 0), 3), ({}, -1))


def fitting_by_hand(code, received):
    """The words that fit, ascending."""
    return [word for word in words_by_hand(code)
            if all(value is None or value == digit for value, digit in zip(received, word))]


def filled_by_hand(code, received):
    """The result of fill_erased as a tuple of its name and attributes."""
    values = list(received)
    while True:
        for number, check in enumerate(code.checks):
            if None not in [values[bit] for bit in check] and sum(values[bit] for bit in check) % 2:
                return "Clash", number
        for check in code.checks:
            lost = [bit for bit in check if values[bit] is None]
            if len(lost) == 1:
                values[lost[0]] = sum(values[bit] or 0 for bit in check) % 2
                break
        else:
            lot = tuple(bit for bit, value in enumerate(values) if value is None)
            return ("Left", lot, tuple(values)) if lot else ("Filled", tuple(values))


def parts(result):
    """The name and the attributes of a result."""
    return (type(result).__name__, *vars(result).values())


def some_received(random, code):
    """Received values by chance, often those of a word."""
    digits = [random.randint(0, 1) for _ in range(code.bits)]
    if random.random() < 0.6:
        digits = random.choice(words_by_hand(code))
    chance = random.choice((0.2, 0.5, 0.9))
    return tuple(None if random.random() < chance else digit for digit in digits)


def received_codes(seed):
    """Couples of codes and received values."""
    random = Random(seed)
    codes = some_codes(seed + 1, 150, 6, 5) + some_codes(seed + 2, 20, 10, 8) + [FIVE, THREE, RING] * 10
    return [(code, some_received(random, code)) for code in codes]


class Received(Raises, unittest.TestCase):
    def test_check_erased(self):
        self.assertEqual(check_erased(FIVE, [0, 1, None, None, 0]), (0, 1, None, None, 0))
        self.assertEqual(check_erased(FIVE, (None,) * 5), (None,) * 5)
        self.assertIs(type(check_erased(FIVE, [0] * 5)), tuple)
        self.assertEqual(erased_lot(FIVE, [0, 1, None, None, 0]), (2, 3))
        self.assertEqual(erased_lot(FIVE, (1,) * 5), ())
        self.assertEqual(received_prices(FIVE, [0, 1, None, None, 0]), (1, -1, 0, 0, 1))

    def test_wrong_received(self):
        for call in (check_erased, erased_lot, fill_erased, fill_best, sure_bits, received_prices, mend_erased,
                     lambda *given: list(fitting_words(*given))):
            for received, place in WRONG:
                self.fails(BadReceived, [place], call, FIVE, received)


class FillErased(unittest.TestCase):
    def test_chance(self):
        names = {"Clash": 0, "Left": 0, "Filled": 0}
        for code, received in received_codes(621):
            told = filled_by_hand(code, received)
            result = fill_erased(code, list(received))
            self.assertEqual(parts(result), told)
            self.assertIn(type(result), (Filled, Left, Clash))
            names[told[0]] += 1
            fitting = fitting_by_hand(code, received)
            if told[0] == "Clash":
                self.assertEqual(fitting, [])
            elif told[0] == "Filled":
                self.assertEqual(fitting, [told[1]])
            else:
                self.assertTrue(all(value is None or value == digit for word in fitting
                                    for value, digit in zip(told[2], word)))
            if fitting:
                lot = [bit for bit, value in enumerate(received) if value is None]
                self.assertEqual(told[1] if told[0] == "Left" else (), peel_erased(code, lot).left)
        self.assertGreater(min(names.values()), 20)

    def test_examples(self):
        """[6.13]"""
        self.assertEqual(parts(fill_erased(THREE, (1, None, None))), ("Clash", 2))
        self.assertEqual(parts(fill_erased(THREE, (0, None, None))), ("Filled", (0, 0, 0)))
        self.assertEqual(parts(fill_erased(THREE, (None,) * 3)), ("Left", (0, 1, 2), (None,) * 3))
        self.assertEqual(parts(fill_erased(FIVE, [None, None, None, 1, 1])), ("Left", (0, 1), (None, None, 0, 1, 1)))
        self.assertEqual(parts(fill_erased(FIVE, (1, None, 0, None, 1))), ("Filled", (1, 1, 0, 1, 1)))
        self.assertEqual(parts(fill_erased(FIVE, (1, 0, 0, 0, 0))), ("Clash", 0))
        self.assertEqual(parts(fill_erased(FIVE, (0, 0, 1, 1, None))), ("Clash", 1))
        self.assertEqual(parts(fill_erased(Code(1, []), (1,))), ("Filled", (1,)))
        self.assertEqual(parts(fill_erased(Code(1, []), (None,))), ("Left", (0,), (None,)))

    def test_a_clash_ahead_of_filling(self):
        code = Code(4, [(0, 1), (1, 2), (2, 3)])
        self.assertEqual(parts(fill_erased(code, (None, 0, 0, 1))), ("Clash", 2))
        self.assertEqual(parts(fill_erased(code, (1, None, 0, 0))), ("Clash", 1))
        self.assertEqual(parts(fill_erased(code, (1, None, None, 0))), ("Clash", 2))
        self.assertEqual(parts(fill_erased(code, (1, 0, 1, 0))), ("Clash", 0))

    def test_all_sum_checks_clash_exactly_if_no_word_fits(self):
        random = Random(622)
        for code in some_codes(623, 60, 6, 4):
            full = Code(code.bits, sums_by_hand(code))
            for _ in range(4):
                received = some_received(random, code)
                clash = isinstance(fill_erased(full, received), Clash)
                self.assertEqual(clash, fitting_by_hand(code, received) == [])

    def test_results(self):
        self.assertEqual(list(vars(Left(told=2, lot=1)).items()), [("lot", 1), ("told", 2)])
        self.assertEqual(list(vars(Several(other=2, one=1)).items()), [("one", 1), ("other", 2)])
        self.assertEqual((vars(Filled(1)), vars(Clash(2)), vars(NoWord())), ({"word": 1}, {"number": 2}, {}))
        self.assertFalse(NoWord() == NoWord())


class Fitting(unittest.TestCase):
    def test_chance(self):
        names = {"Filled": 0, "Several": 0, "NoWord": 0}
        for code, received in received_codes(624):
            fitting = fitting_by_hand(code, received)
            self.assertEqual(list(fitting_words(code, list(received))), fitting)
            best = fill_best(code, list(received))
            told = (("NoWord",) if not fitting else ("Filled", fitting[0]) if len(fitting) == 1
                    else ("Several", fitting[0], fitting[1]))
            self.assertEqual(parts(best), told)
            names[told[0]] += 1
            sure = sure_bits(code, list(received))
            if fitting:
                self.assertEqual(sure, tuple(column[0] if len(set(column)) == 1 else None for column in zip(*fitting)))
                self.assertIs(type(sure), tuple)
            else:
                self.assertIs(type(sure), NoWord)
            self.assertIn(type(best), (Filled, Several, NoWord))
        self.assertGreater(min(names.values()), 20)

    def test_examples(self):
        self.assertEqual(list(fitting_words(FIVE, (None,) * 5)), words_by_hand(FIVE))
        self.assertEqual(parts(fill_best(FIVE, (None,) * 5)), ("Several", (0, 0, 0, 0, 0), (0, 0, 0, 1, 1)))
        self.assertEqual(parts(fill_best(FIVE, (None, 1, None, 1, None))), ("Filled", (1, 1, 0, 1, 1)))
        self.assertEqual(parts(fill_best(THREE, (None,) * 3)), ("Filled", (0, 0, 0)))
        self.assertIsInstance(fill_best(FIVE, (None, None, 1, None, None)), NoWord)
        self.assertIsInstance(sure_bits(FIVE, (None, None, 1, None, None)), NoWord)
        self.assertEqual(sure_bits(FIVE, (None, None, None, 1, None)), (None, None, 0, 1, 1))
        self.assertEqual(sure_bits(THREE, [None] * 3), (0, 0, 0))

    def test_begun_twice(self):
        self.assertTrue(inspect.isgeneratorfunction(fitting_words))
        words = fitting_words(FIVE, (None,) * 5)
        self.assertEqual(next(words), (0, 0, 0, 0, 0))
        self.assertEqual(next(fitting_words(FIVE, (None,) * 5)), (0, 0, 0, 0, 0))
        self.assertEqual(len(list(words)), 3)


class FirstGap(unittest.TestCase):
    def gap_by_hand(self, code):
        """The first lot of all that peeling does not end for and that holds no word but 0."""
        words = [{bit for bit in range(code.bits) if word[bit]} for word in words_by_hand(code)]
        for lot in lots_of(range(code.bits)):
            if not peel_erased(code, lot).ended and not any(word and word <= set(lot) for word in words):
                return lot
        return None

    def test_chance(self):
        told = {True: 0, False: 0}
        for code in some_codes(625, 120, 6, 6) + some_codes(626, 5, 10, 9) + [FIVE, THREE, RING, Code(10, [])]:
            gap = self.gap_by_hand(code)
            self.assertEqual(first_gap(code), gap, code.checks)
            told[gap is None] += 1
        self.assertGreater(min(told.values()), 10)

    def test_examples(self):
        self.assertEqual(first_gap(THREE), (0, 1, 2))
        self.assertIsNone(first_gap(FIVE))
        self.assertIsNone(first_gap(Code(1, [])))
        self.assertEqual(first_gap(Code(4, [(1, 2), (1, 3), (1, 2, 3)])), (1, 2, 3))
        self.assertEqual(first_gap(Code(6, [(3, 4), (3, 5), (3, 4, 5), (0, 1)])), (3, 4, 5))

    def test_four_sentences_with_all_sum_checks(self):
        """[6.11]"""
        random = Random(627)
        for code in some_codes(628, 60, 6, 4):
            full = Code(code.bits, sums_by_hand(code))
            self.assertIsNone(first_gap(full))
            words = words_by_hand(code)
            for lot in random.sample(lots_of(range(code.bits)), min(6, 1 << code.bits)):
                within = [word for word in words if all(bit in lot for bit in range(code.bits) if word[bit])]
                ones = tuple(bit for bit in range(code.bits) if any(word[bit] for word in within))
                self.assertEqual(greatest_stop(full, lot), ones)
                many = len(least_hints(full, lot))
                self.assertEqual(1 << many, len(within))
            received = some_received(random, code)
            if fitting_by_hand(code, received):
                result = fill_erased(full, received)
                told = result.word if isinstance(result, Filled) else result.told
                self.assertEqual(told, sure_bits(code, received))


class Both(Raises, unittest.TestCase):
    def test_mend_erased(self):
        names = {Mended: 0, Unsure: 0}
        for code, received in received_codes(629):
            prices = tuple(0 if value is None else (1, -1)[value] for value in received)
            self.assertEqual(received_prices(code, list(received)), prices)
            told = mend_erased(code, list(received))
            least = cheapest_let(code, prices)
            if is_sole(code, prices) and all(share[1] == 1 for share in least.row):
                self.assertEqual(parts(told), ("Mended", tuple(share[0] for share in least.row)))
            else:
                self.assertIs(type(told), Unsure)
                self.assertIsNone(fault_by_hand(code, told.row))
                self.assertEqual(digit_costs(prices, told.row), Fraction(*least.price))
                self.assertTrue(any(0 < share < 1 for share in fractions(told.row)))
            names[type(told)] += 1
        self.assertGreater(min(names.values()), 20)

    def test_words_sent(self):
        random = Random(630)
        told = {True: 0, False: 0}
        for code in some_codes(631, 60, 6, 5) + [RING] * 10:
            bits = list(range(code.bits))
            for _ in range(3):
                random.shuffle(bits)
                end = random.randint(0, min(2, code.bits))
                flips, erased = bits[:end], bits[end:random.randint(end, code.bits)]
                fault = both_fault(code, flips, erased)
                word = random.choice(words_by_hand(code))
                received = [None if bit in erased else word[bit] ^ (bit in flips) for bit in range(code.bits)]
                result = mend_erased(code, received)
                self.assertEqual(isinstance(result, Mended) and result.word == word, fault is None)
                told[fault is None] += 1
                if fault is not None:
                    self.fault_judged(code, flips, erased, fault)
                if not flips:
                    filled = isinstance(fill_erased(code, received), Filled)
                    self.assertEqual(filled, isinstance(result, Mended))
        self.assertGreater(min(told.values()), 30)

    def fault_judged(self, code, flips, erased, row):
        """A cone row, not 0, that comes on the flips to what it comes to off both lots at least."""
        self.assertEqual((type(row), len(row)), (tuple, code.bits))
        self.assertTrue(any(row) and keeps_rules(cone_rules_by_hand(code), row))
        rest = [bit for bit in range(code.bits) if bit not in flips and bit not in erased]
        self.assertGreaterEqual(sum(row[bit] for bit in flips), sum(row[bit] for bit in rest))

    def test_plain_ones(self):
        self.assertIsNone(both_fault(FIVE, (), ()))
        self.assertIsNone(both_fault(RING, [1], []))
        self.fault_judged(RING, (1,), (0,), both_fault(RING, (1,), (0,)))
        self.assertIsNone(both_fault(RING, (), (2, 0)))
        self.fault_judged(RING, (), (0, 1, 2), both_fault(RING, (), [2, 1, 0]))
        self.assertIsNone(both_fault(Code(2, [(0,), (1,)]), (0,), (1,)))
        self.assertEqual(parts(mend_erased(RING, (1, None, None))), ("Mended", (1, 1, 1)))
        self.assertEqual(parts(mend_erased(RING, [0, None, 0])), ("Mended", (0, 0, 0)))
        self.assertEqual(type(mend_erased(RING, (0, None, 1))), Unsure)

    def test_wrong_lots(self):
        for lot in (None, "0", 0, (5,), (0, 0), (True,), (-1,), [[0]], {0}, (None,)):
            self.fails(BadLot, [], both_fault, FIVE, lot, ())
            self.fails(BadLot, [], both_fault, FIVE, (), lot)
        self.fails(BadLot, [], both_fault, FIVE, (0, 1), (1, 2))
        self.fails(BadLot, [], both_fault, FIVE, [0, 1, 2, 3, 4], [4])
        self.fault_judged(FIVE, (0, 1), (2, 3, 4), both_fault(FIVE, (0, 1), (2, 3, 4)))


if __name__ == "__main__":
    unittest.main()
