"""Tests of letbychecks.passing: [7.1], [7.2], [7.3]."""

import inspect
import unittest
from fractions import Fraction
from itertools import product
from random import Random

from letbychecks.cheapest import cheapest_let, share_range
from letbychecks.codes import Code
from letbychecks.errors import BadPrices, NotRingless
from letbychecks.passing import cheapest_by_passing, price_pairs, tables_along
from letbychecks.verdicts import verdict_at
from letbychecks.webrings import ring_fault, web_ring
from tests.helpers import FIVE, WRONG_PRICES, Raises, digit_costs, some_prices, words_by_hand

TREE = Code(10, [(0, 1, 2), (2, 3), (3, 4, 5, 6), (6, 7), (8, 9), (1,)])
RING = Code(5, [(0, 1), (1, 2), (0, 2)])


def ringless_codes(seed, many, most_bits=7):
    """Codes without a ring by chance: checks that make a ring are left out."""
    random = Random(seed)
    codes = []
    for _ in range(many):
        bits = random.randint(1, most_bits)
        checks = []
        for _ in range(random.choice((0, 2, 5, 9))):
            check = random.sample(range(bits), random.choice([size for size in (1, 2, 2, 3, 3, 4) if size <= bits]))
            if web_ring(Code(bits, [*checks, check])) is None:
                checks.append(check)
        codes.append(Code(bits, checks))
    return codes


def all_codes():
    """Ringless codes by chance and those at the edges."""
    return ringless_codes(701, 80) + ringless_codes(702, 5, 10) + [
        TREE, Code(1, []), Code(1, [(0,)]), Code(1, [(0,), (0,)]), Code(10, []), Code(3, [(0, 1, 2)]),
        Code(10, [tuple(range(10))]), Code(10, [(bit, bit + 1) for bit in range(9)]), Code(2, [(0,), (1,), (0, 1)])]


def side_of(code, source, target):
    """The places on the source's side of the wire to the target."""
    near = {source}
    waiting = [source]
    while waiting:
        place = waiting.pop()
        for number, check in enumerate(code.checks):
            for bit in check:
                wire = (("check", number), ("bit", bit))
                if place in wire and set(wire) != {source, target}:
                    other = wire[0] if wire[1] == place else wire[1]
                    if other not in near:
                        near.add(other)
                        waiting.append(other)
    return near


def table_by_hand(code, prices, source, target):
    """The table of a wire as [7.1] tells it, by all settings of the bits of its side."""
    near = side_of(code, source, target)
    own = source if source[0] == "bit" else target
    bits = sorted({bit for kind, bit in near if kind == "bit"} | {own[1]})
    checks = [code.checks[number] for kind, number in near if kind == "check"]
    table = []
    for digit in (0, 1):
        best = None
        for digits in product((0, 1), repeat=len(bits)):
            at = dict(zip(bits, digits))
            if at[own[1]] == digit and all(sum(at[bit] for bit in check) % 2 == 0 for check in checks):
                cost = sum(prices[bit] for bit in bits if at[bit] and (bit != own[1] or source[0] == "bit"))
                best = cost if best is None else min(best, cost)
        table.append(best)
    return tuple(table)


class Tables(Raises, unittest.TestCase):
    def test_tables(self):
        random = Random(703)
        for code in all_codes():
            prices = some_prices(random, code, random.choice((1, 9, 99)))
            for source, target, table in tables_along(code, list(prices)):
                self.assertEqual(table, table_by_hand(code, prices, source, target))
                self.assertIs(type(table), tuple)

    def test_each_wire_once_each_way(self):
        for code in all_codes():
            told = [(source, target) for source, target, _ in tables_along(code, (0,) * code.bits)]
            wires = [(("check", number), ("bit", bit)) for number, check in enumerate(code.checks) for bit in check]
            self.assertEqual(sorted(told), sorted(wires + [wire[::-1] for wire in wires]))

    def test_each_behind_those_that_it_is_made_of(self):
        for code in all_codes():
            triples = list(tables_along(code, (1,) * code.bits))
            self.assertTrue(all(type(triple) is tuple and len(triple) == 3 for triple in triples))
            places = {(source, target): place for place, (source, target, _) in enumerate(triples)}
            for source, target in places:
                for other, middle in places:
                    if middle == source and other != target:
                        self.assertLess(places[other, middle], places[source, target])

    def test_examples(self):
        """[7.1]"""
        tables = {triple[:2]: triple[2] for triple in tables_along(Code(1, [(0,)]), (3,))}
        self.assertEqual(tables, {(("check", 0), ("bit", 0)): (0, None), (("bit", 0), ("check", 0)): (0, 3)})
        tables = {triple[:2]: triple[2] for triple in tables_along(Code(2, [(0, 1), (1,)]), (5, -7))}
        self.assertEqual(tables[("check", 0), ("bit", 0)], (0, None))
        self.assertEqual(tables[("check", 0), ("bit", 1)], (0, 5))
        self.assertEqual(tables[("bit", 1), ("check", 1)], (0, -2))
        self.assertEqual(tables[("bit", 1), ("check", 0)], (0, None))
        self.assertEqual(list(tables_along(Code(4, []), (1, 2, 3, 4))), [])

    def test_both_tables_of_a_wire(self):
        """Added, they are the least prices of that piece with the bit at 0 and at 1."""
        prices = (3, -5, 2, 7, -1, 4, -6, 5, -9, 8)
        tables = {triple[:2]: triple[2] for triple in tables_along(TREE, prices)}
        for number, check in enumerate(TREE.checks):
            for bit in check:
                one = tables[("check", number), ("bit", bit)]
                other = tables[("bit", bit), ("check", number)]
                piece = (8, 9) if bit in (8, 9) else tuple(range(8))
                words = [word for word in words_by_hand(TREE) if not any(word[at] for at in range(10)
                                                                         if at not in piece)]
                for digit in (0, 1):
                    costs = [digit_costs(prices, word) for word in words if word[bit] == digit]
                    both = None if None in (one[digit], other[digit]) else one[digit] + other[digit]
                    self.assertEqual(both, min(costs, default=None))

    def test_begun_twice(self):
        self.assertTrue(inspect.isgeneratorfunction(tables_along))
        tables = tables_along(TREE, (1,) * 10)
        first = next(tables)
        self.assertEqual(next(tables_along(TREE, (1,) * 10)), first)
        self.assertEqual([first, *tables], list(tables_along(TREE, (1,) * 10)))


class Least(Raises, unittest.TestCase):
    def test_price_pairs(self):
        random = Random(704)
        nones = 0
        for code in all_codes():
            prices = some_prices(random, code, random.choice((0, 1, 9, 99)))
            words = words_by_hand(code)
            told = []
            for bit in range(code.bits):
                costs = [[digit_costs(prices, word) for word in words if word[bit] == digit] for digit in (0, 1)]
                told.append((min(costs[0]), min(costs[1], default=None)))
                nones += told[-1][1] is None
            self.assertEqual(price_pairs(code, list(prices)), tuple(told))
            self.assertEqual({type(pair) for pair in price_pairs(code, prices)}, {tuple})
        self.assertGreater(nones, 20)

    def test_cheapest(self):
        random = Random(705)
        for code in all_codes():
            for most in (0, 1, 99):
                prices = some_prices(random, code, most)
                costs = {word: digit_costs(prices, word) for word in words_by_hand(code)}
                least = min(costs.values())
                told = cheapest_by_passing(code, list(prices))
                self.assertEqual(told, (least, next(word for word in costs if costs[word] == least)))
                self.assertEqual((type(told), type(told[0]), type(told[1])), (tuple, int, tuple))

    def test_let_rows(self):
        """[7.3]: a ringless code is right for all prices, and ends of shares are 0 or 1."""
        random = Random(706)
        for code in all_codes()[::2]:
            prices = some_prices(random, code, 2)
            price, _ = cheapest_by_passing(code, prices)
            self.assertEqual(Fraction(*cheapest_let(code, prices).price), price)
            self.assertEqual(verdict_at(code, prices), "right")
            for bit, (low, high) in enumerate(price_pairs(code, prices)):
                span = share_range(code, prices, bit)
                self.assertEqual(span.low.share, (0, 1) if low == price else (1, 1))
                self.assertEqual(span.high.share, (1, 1) if high == price else (0, 1))

    def test_plain_ones(self):
        self.assertEqual(price_pairs(Code(3, []), (1, -2, 0)), ((-2, -1), (0, -2), (-2, -2)))
        self.assertEqual(cheapest_by_passing(Code(3, []), (1, -2, 0)), (-2, (0, 1, 0)))
        self.assertEqual(price_pairs(Code(2, [(0,)]), (-9, 4)), ((0, None), (0, 4)))
        self.assertEqual(price_pairs(Code(3, [(0, 1)]), (5, -7, -1)), ((-1, -3), (-1, -3), (-2, -3)))
        self.assertEqual(cheapest_by_passing(Code(3, [(0, 1)]), (5, -7, -1)), (-3, (1, 1, 1)))
        self.assertEqual(cheapest_by_passing(Code(3, [(0, 1)]), (5, -5, -1)), (-1, (0, 0, 1)))


class Errors(Raises, unittest.TestCase):
    def test_wrong_prices(self):
        for code in (FIVE, Code(5, [(0, 1)])):
            for prices, place in WRONG_PRICES:
                self.fails(BadPrices, [place], price_pairs, code, prices)
                self.fails(BadPrices, [place], cheapest_by_passing, code, prices)
                self.fails(BadPrices, [place], lambda: list(tables_along(code, prices)))

    def test_rings(self):
        for code in (FIVE, RING, Code(2, [(0, 1), (0, 1)]), Code(10, [(bit, (bit + 1) % 10) for bit in range(10)])):
            for call in (price_pairs, cheapest_by_passing, lambda *given: list(tables_along(*given))):
                with self.assertRaises(NotRingless) as caught:
                    call(code, (0,) * code.bits)
                self.assertIsNone(ring_fault(code, caught.exception.ring))
                self.assertEqual(list(vars(caught.exception)), ["ring"])


if __name__ == "__main__":
    unittest.main()
