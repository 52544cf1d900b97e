"""Tests of letbychecks.cutstruck: [9.2], [9.5], [9.6], [9.7]."""

import unittest
from fractions import Fraction
from random import Random

from letbychecks.cheapest import cheapest_let
from letbychecks.codes import Code
from letbychecks.corners import corners_of
from letbychecks.cutstruck import Hidden, cut_code, find_hidden, hidden_fault, hidden_prices, small_of, struck_code
from letbychecks.errors import BadLot, NotHidden, NothingLeft
from letbychecks.smallcodes import echelon_code, same_up_to_order, small_code
from letbychecks.verdicts import best_word, verdict_at
from letbychecks.words import renamed_code
from tests.helpers import FIVE, ODD_THINGS, Raises, digit_costs, fault_by_hand, lots_of, ratio, some_code, some_codes
from tests.helpers import some_prices, sums_by_hand, words_by_hand

BITS = {"seven": 7, "five": 10, "ten": 10}
WRONG_LOTS = (None, "0", 0, (5,), (-1,), (True,), (1, 1), [[0]], {0}, (None,))
SEVEN = small_code("seven")


def small_words(code, cut, struck):
    """The words that are left, as a set."""
    left = [bit for bit in range(code.bits) if bit not in cut and bit not in struck]
    return {tuple(word[bit] for bit in left) for word in words_by_hand(code) if not any(word[bit] for bit in cut)}


def couples_of(bits, spare=None):
    """All couples of lots to cut and to strike, the first by the order of lots and then the second."""
    for cut in lots_of(range(bits)):
        for struck in lots_of(set(range(bits)) - set(cut)):
            if spare is None or len(cut) + len(struck) == spare:
                yield cut, struck


def hiding_code(random, which, more):
    """A code that hides the small one behind cuts and strikes by chance, and the lots to cut and to strike."""
    small = small_code(which)
    bits = small.bits + more
    order = random.sample(range(bits), bits)
    cut = [place for place in range(small.bits, bits) if random.random() < 0.5]
    struck = [place for place in range(small.bits, bits) if place not in cut]
    # Bits to cut join checks, bits to strike are told by one more check each.
    checks = [[*check, *[place for place in cut if random.random() < 0.5]] for check in small.checks]
    checks += [[place, *random.sample(range(small.bits), random.randint(0, 3))] for place in struck]
    return renamed_code(Code(bits, checks), order)


class Parted(Raises, unittest.TestCase):
    def test_words_that_are_left(self):
        random = Random(921)
        for code in some_codes(922, 60, 6, 5) + [FIVE, Code(1, []), Code(4, [])]:
            couples = [couple for couple in couples_of(code.bits) if len(couple[0]) + len(couple[1]) < code.bits]
            for cut, struck in random.sample(couples, min(12, len(couples))):
                small = small_of(code, random.sample(cut, len(cut)), list(struck))
                self.assertEqual(set(words_by_hand(small)), small_words(code, cut, struck))
                self.assertEqual(small.bits, code.bits - len(cut) - len(struck))
                self.assertEqual(small, echelon_code(small))
                self.assertEqual(cut_code(code, cut), small_of(code, cut, ()))
                self.assertEqual(struck_code(code, list(struck)), small_of(code, [], struck))

    def test_which_comes_first_makes_no_difference(self):
        random = Random(923)
        for code in some_codes(924, 40, 8, 6):
            bits = random.sample(range(code.bits), random.randint(0, code.bits - 1))
            half = random.randint(0, len(bits))
            cut, struck = bits[:half], bits[half:]
            rest = [bit for bit in range(code.bits) if bit not in cut]
            others = [bit for bit in range(code.bits) if bit not in struck]
            told = small_of(code, cut, struck)
            self.assertEqual(told, struck_code(cut_code(code, cut), [rest.index(bit) for bit in struck]))
            self.assertEqual(told, cut_code(struck_code(code, struck), [others.index(bit) for bit in cut]))

    def test_empty_lots(self):
        for code in some_codes(925, 30, 8, 6) + [SEVEN]:
            for made in (cut_code(code, ()), struck_code(code, []), small_of(code, [], ())):
                self.assertEqual(made, echelon_code(code))

    def test_plain_ones(self):
        self.assertEqual(cut_code(FIVE, (2,)).checks, ((0, 1), (2, 3)))
        self.assertEqual(struck_code(FIVE, (0,)).checks, ((1,), (2, 3)))
        self.assertEqual(struck_code(FIVE, (0, 2)), Code(3, [(1, 2)]))
        self.assertEqual(struck_code(FIVE, (0, 2, 3)), Code(2, []))
        self.assertEqual(cut_code(FIVE, (0, 2, 3)), Code(2, [(0,), (1,)]))
        self.assertEqual(small_of(Code(3, [(0, 1, 2)]), (0,), (1,)), Code(1, []))
        self.assertEqual(small_of(Code(3, [(0, 1, 2)]), (0, 1), ()), Code(1, [(0,)]))
        self.assertEqual(cut_code(Code(10, []), tuple(range(9))), Code(1, []))

    def test_nothing_left(self):
        for call in (cut_code, struck_code):
            self.fails(NothingLeft, [], call, FIVE, [4, 3, 2, 1, 0])
            self.fails(NothingLeft, [], call, Code(1, []), (0,))
        for cut, struck in couples_of(5, 5):
            self.fails(NothingLeft, [], small_of, FIVE, cut, struck)

    def test_bad_lots(self):
        for lot in WRONG_LOTS:
            self.fails(BadLot, [], cut_code, FIVE, lot)
            self.fails(BadLot, [], struck_code, FIVE, lot)
            self.fails(BadLot, [], small_of, FIVE, lot, (0, 1, 2, 3, 4))
            self.fails(BadLot, [], small_of, FIVE, (0, 1, 2, 3, 4), lot)
        self.fails(BadLot, [], small_of, FIVE, (0, 1), (2, 1))
        self.fails(BadLot, [], small_of, FIVE, (0, 1, 2, 3, 4), (2,))


class FindHidden(unittest.TestCase):
    def judged(self, code, hidden):
        """A hidden code is told in a right way."""
        self.assertIs(type(hidden), Hidden)
        self.assertEqual({type(hidden.cut), type(hidden.struck), type(hidden.order)}, {tuple})
        small = small_of(code, hidden.cut, hidden.struck)
        words = {tuple(word[place] for place in hidden.order)
                 for word in small_words(code, hidden.cut, hidden.struck)}
        self.assertEqual(sorted(hidden.order), list(range(small.bits)))
        self.assertEqual(words, set(words_by_hand(small_code(hidden.which))))
        self.assertIsNone(hidden_fault(code, hidden))

    def first_by_hand(self, code):
        """Which code is hidden first, and by which lots, or None."""
        for which, bits in BITS.items():
            for cut, struck in couples_of(code.bits, code.bits - bits):
                if same_up_to_order(small_of(code, cut, struck), small_code(which)) is not None:
                    return which, cut, struck
        return None

    def test_less_than_seven_bits(self):
        for code in some_codes(926, 30, 6, 5) + [Code(6, []), FIVE]:
            self.assertIsNone(find_hidden(code))

    def test_the_three_in_drawn_orders(self):
        random = Random(927)
        for which, bits in BITS.items():
            for _ in range(4):
                code = renamed_code(small_code(which), random.sample(range(bits), bits))
                hidden = find_hidden(Code(bits, sums_by_hand(code)))
                self.assertEqual((hidden.which, hidden.cut, hidden.struck), (which, (), ()))
                self.judged(code, hidden)

    def test_behind_a_cut_and_a_strike(self):
        random = Random(928)
        for more in (1, 2, 3):
            for _ in range(6):
                code = hiding_code(random, "seven", more)
                hidden = find_hidden(code)
                self.assertIsNotNone(hidden)
                self.judged(code, hidden)
                self.assertEqual((hidden.which, hidden.cut, hidden.struck), self.first_by_hand(code))

    def test_none_or_the_first(self):
        random = Random(929)
        told = {True: 0, False: 0}
        codes = [hiding_code(random, "seven", random.randint(0, 2)) for _ in range(12)]
        for code in codes + some_codes(929, 60, 9, 6):
            # One check more, or one less, hides it now and then.
            checks = random.sample(code.checks, max(0, len(code) - random.randint(0, 1)))
            code = Code(code.bits, checks + random.sample(sums_by_hand(code), min(1, len(code))))
            hidden = find_hidden(code)
            told[hidden is None] += 1
            first = self.first_by_hand(code)
            if hidden is None:
                self.assertIsNone(first)
            else:
                self.judged(code, hidden)
                self.assertEqual((hidden.which, hidden.cut, hidden.struck), first)
        self.assertGreater(min(told.values()), 3)

    def test_hidden_exactly_if_some_small_code_is(self):
        """By words alone: seven words of four ones on seven bits are "seven", whatever the order."""
        random = Random(930)
        for _ in range(40):
            code = Code(8, [random.sample(range(8), random.choice((2, 3, 4))) for _ in range(random.randint(3, 5))])
            weights = [sorted(map(sum, small_words(code, cut, struck))) for cut, struck in couples_of(8, 1)]
            self.assertEqual(find_hidden(code) is None, [0] + [4] * 7 not in weights)

    def test_plain_ones(self):
        self.assertIsNone(find_hidden(Code(10, [])))
        self.assertIsNone(find_hidden(Code(10, [(bit, bit + 1) for bit in range(9)])))
        hidden = find_hidden(Code(8, SEVEN.checks))
        self.assertEqual((hidden.which, hidden.cut, hidden.struck), ("seven", (), (7,)))
        hidden = find_hidden(Code(8, [*SEVEN.checks, (7,)]))
        self.assertEqual((hidden.which, hidden.cut, hidden.struck), ("seven", (), (7,)))
        # Struck, bit 7 would take the check 0127 with it.
        hidden = find_hidden(Code(8, [(0, 1, 2, 7), *SEVEN.checks[1:]]))
        self.assertEqual((hidden.which, hidden.cut, hidden.struck), ("seven", (7,), ()))


class HiddenFault(unittest.TestCase):
    def setUp(self):
        self.code = Code(9, [*SEVEN.checks[:3], (2, 3, 6, 7), (7, 8)])
        self.order = same_up_to_order(small_of(self.code, (7,), (8,)), SEVEN)

    def fault(self, *things):
        return hidden_fault(self.code, Hidden(*things))

    def test_right(self):
        self.assertIsNone(self.fault("seven", (7,), (8,), self.order))
        self.assertIsNone(self.fault("seven", (7,), (8,), list(self.order)))
        self.assertIsNone(self.fault("seven", (7, 8), (), self.order))

    def test_words_in_turn(self):
        for thing in ODD_THINGS + ("Seven", "seven ", ("seven",), ["seven"], b"seven", "eight"):
            self.assertEqual(self.fault(thing, None, None, None), "which")
            self.assertEqual(self.fault(thing, (7,), (8,), self.order), "which")
        for thing in tuple(thing for thing in ODD_THINGS if thing != ()) + (
                [7], [], (9,), (8, 7), (7, 7), (True,), (0, True), (7.0,), "7", {7}):
            self.assertEqual(self.fault("seven", thing, None, None), "cut")
            self.assertEqual(self.fault("seven", thing, (8,), self.order), "cut")
        for thing in ODD_THINGS + ([8], (7,), (), (6, 8), (8, 6), (9,), (-1,), (8, 8), (False,), "8", (8.0,)):
            self.assertEqual(self.fault("seven", (7,), thing, None), "struck")
            self.assertEqual(self.fault("seven", (7,), thing, self.order), "struck")
        for thing in ODD_THINGS + (self.order[:6], (*self.order, 7), self.order[:6] + (self.order[0],), (7,) * 7,
                                   tuple(bool(place) if place < 2 else place for place in self.order), "0123456"):
            self.assertEqual(self.fault("seven", (7,), (8,), thing), "order")
        self.assertEqual(self.fault("seven", (0, 1), (), self.order), "order")

    def test_as_many_bits_as_the_small_code_has(self):
        self.assertEqual(self.fault("five", (), (), tuple(range(9))), "struck")
        self.assertEqual(self.fault("ten", (7,), (8,), self.order), "struck")
        self.assertEqual(hidden_fault(Code(10, []), Hidden("ten", (), (), tuple(range(10)))), "order")
        self.assertEqual(hidden_fault(FIVE, Hidden("seven", (), (), ())), "struck")

    def test_all_orders_by_their_words(self):
        random = Random(931)
        words = set(words_by_hand(SEVEN))
        told = {True: 0, False: 0}
        for _ in range(300):
            order = random.sample(range(7), 7)
            right = {tuple(word[place] for place in order) for word in words} == words
            told[right] += 1
            self.assertEqual(hidden_fault(SEVEN, Hidden("seven", (), (), order)), None if right else "order")
        self.assertGreater(min(told.values()), 3)


class HiddenPrices(Raises, unittest.TestCase):
    LEAST = {"seven": (-4, "-14/3"), "five": (-6, "-20/3"), "ten": (0, "-1/2")}

    def judged(self, code, hidden):
        """The prices fool the code with all its sum checks, as the point tells."""
        prices = hidden_prices(code, hidden)
        least, cost = self.LEAST[hidden.which]
        row = [None] * code.bits
        left = [bit for bit in range(code.bits) if bit not in hidden.cut + hidden.struck]
        for name, place in enumerate(hidden.order):
            low = hidden.which != "ten" or name in (2, 3, 5)
            self.assertEqual(prices[left[place]], -1 if low else 1)
            row[left[place]] = ratio("2/3") if hidden.which != "ten" else ratio("3/4" if low else "1/4")
        self.assertTrue(all(prices[bit] == 99 for bit in hidden.cut))
        self.assertTrue(all(prices[bit] == 0 for bit in hidden.struck))
        self.assertIs(type(prices), tuple)
        self.assertEqual(best_word(code, prices)[0], least)
        full = Code(code.bits, sums_by_hand(code)) if len(sums_by_hand(code)) < 64 else None
        if full is not None:
            self.assertEqual(verdict_at(full, prices), "fooled")
            # Let rows of all costs between this and the cheapest word's are there.
            self.assertLessEqual(Fraction(*cheapest_let(full, prices).price), Fraction(cost))
        if full is not None and not hidden.struck:
            shares = tuple((0, 1) if bit in hidden.cut else row[bit] for bit in range(code.bits))
            self.assertIsNone(fault_by_hand(full, shares))
            self.assertEqual(ratio(digit_costs(prices, shares)), ratio(cost))
        return prices

    def test_small_codes(self):
        random = Random(932)
        for which, bits in BITS.items():
            for _ in range(3):
                code = renamed_code(small_code(which), random.sample(range(bits), bits))
                self.judged(code, find_hidden(code))
        self.assertEqual(hidden_prices(SEVEN, Hidden("seven", (), (), list(range(7)))), (-1,) * 7)
        self.assertEqual(hidden_prices(small_code("ten"), Hidden("ten", (), (), tuple(range(10)))),
                         (1, 1, -1, -1, 1, -1, 1, 1, 1, 1))

    def test_behind_a_cut_and_a_strike(self):
        random = Random(933)
        for more in (1, 2, 3):
            for _ in range(4):
                code = hiding_code(random, "seven", more)
                self.judged(code, find_hidden(code))
        code = Code(9, [*SEVEN.checks[:3], (2, 3, 6, 7), (7, 8)])
        hidden = Hidden("seven", (7,), (8,), same_up_to_order(small_of(code, (7,), (8,)), SEVEN))
        self.assertEqual(self.judged(code, hidden), (-1,) * 7 + (99, 0))
        hidden = Hidden("seven", (7, 8), (), hidden.order)
        self.assertEqual(self.judged(code, hidden), (-1,) * 7 + (99, 99))

    def test_not_hidden(self):
        self.fails(NotHidden, ["which"], hidden_prices, SEVEN, Hidden(7, None, None, None))
        self.fails(NotHidden, ["cut"], hidden_prices, SEVEN, Hidden("seven", [], None, None))
        self.fails(NotHidden, ["struck"], hidden_prices, SEVEN, Hidden("seven", (), [], None))
        self.fails(NotHidden, ["struck"], hidden_prices, SEVEN, Hidden("five", (), (), tuple(range(7))))
        self.fails(NotHidden, ["order"], hidden_prices, SEVEN, Hidden("seven", (), (), (0, 0, 1, 2, 3, 4, 5)))

    def test_right_exactly_if_nothing_is_hidden(self):
        """[9.6], at prices by chance and at those of the hidden code."""
        random = Random(934)
        told = {True: 0, False: 0}
        for _ in range(30):
            code = some_code(random, 8, 5)
            if code.bits > 6 and len(sums_by_hand(code)) < 64:
                full = Code(code.bits, sums_by_hand(code))
                hidden = find_hidden(code)
                told[hidden is None] += 1
                if hidden is None:
                    for _ in range(5):
                        self.assertEqual(verdict_at(full, some_prices(random, code, random.choice((1, 9)))), "right")
        self.assertGreater(told[True], 3)

    def test_codes_of_six_bits_are_right(self):
        for code in some_codes(935, 20, 6, 4):
            full = Code(code.bits, sums_by_hand(code))
            self.assertIsNone(find_hidden(full))
            self.assertTrue(all(share in ((0, 1), (1, 1)) for row in corners_of(full) for share in row))

    def test_let_rows_of_cut_and_struck_codes(self):
        """[9.7]: with all sum checks, of a cut code the let rows that are 0 there; of a struck one all, cut short."""
        random = Random(936)
        for code in some_codes(937, 30, 5, 4):
            full = Code(code.bits, sums_by_hand(code))
            corners = corners_of(full)
            bit = random.randrange(code.bits)
            if code.bits > 1:
                for made, rows in ((cut_code(code, [bit]), [row for row in corners if row[bit] == (0, 1)]),
                                   (struck_code(code, [bit]), corners)):
                    rest = [other for other in range(code.bits) if other != bit]
                    small = Code(made.bits, sums_by_hand(made))
                    self.assertEqual({tuple(row[other] for other in rest) for row in rows}, set(corners_of(small)))


if __name__ == "__main__":
    unittest.main()
