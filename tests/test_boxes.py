"""Tests of letbychecks.boxes, on which [4.7], [4.9] and [5.2] to [5.3] stand: any rules that the row of zeros keeps to."""

import unittest
from fractions import Fraction
from itertools import combinations
from random import Random

from letbychecks.boxes import cheapest_corner
from letbychecks.codes import Code
from tests.helpers import digit_costs, fractions, met_by_hand, rank_by_hand, ratio


def side_rules(bits):
    """The rules of the box."""
    rules = []
    for bit in range(bits):
        for sign, name in ((1, "low"), (-1, "high")):
            rules.append((tuple(sign if place == bit else 0 for place in range(bits)), min(sign, 0), (name, bit)))
    return rules


def some_rules(random, bits):
    """Rules by chance that the row of zeros keeps to."""
    return [(tuple(random.randint(-2, 2) for _ in range(bits)), random.choice((0, -1, -1, -2)), ("mine", number))
            for number in range(random.randint(0, 5))]


def worst_of(rules, first):
    """A function that tells the rule that is broken most, or the first one that is broken."""
    def worst(_, tops, bottom):
        lacks = [(rule[1] * bottom - sum(part * top for part, top in zip(rule[0], tops)), rule) for rule in rules]
        broken = [couple for couple in lacks if couple[0] > 0]
        if not broken:
            return 0, None
        return broken[0] if first else max(broken, key=lambda couple: couple[0])
    return worst


def least_by_hand(prices, rules):
    """The least cost of a row that keeps to the rules, by all choices of n rules."""
    costs = []
    for chosen in combinations(rules, len(prices)):
        met = met_by_hand([(slope, bound) for slope, bound, _ in chosen])
        if met is not None and all(digit_costs(slope, met) >= bound for slope, bound, _ in rules):
            costs.append(digit_costs(prices, met))
    return min(costs)


class Boxes(unittest.TestCase):
    def judged(self, prices, rules, first):
        """The row is a corner that costs least, and the members prove it."""
        every = side_rules(len(prices)) + rules
        row, members = cheapest_corner(Code(len(prices), []), prices, worst_of(rules, first))
        shares = fractions(row)
        self.assertEqual([ratio(share) for share in shares], list(row))
        self.assertTrue(all(digit_costs(slope, shares) >= bound for slope, bound, _ in every))
        self.assertTrue(all(rule in every and digit_costs(rule[0], shares) == rule[1] for rule, _ in members))
        self.assertEqual(rank_by_hand([rule[0] for rule, _ in members]), len(prices))
        self.assertEqual(len(members), len(prices))
        weights = [Fraction(*weight) for _, weight in members]
        self.assertGreaterEqual(min(weights), 0)
        for bit, price in enumerate(prices):
            self.assertEqual(sum(weight * rule[0][bit] for weight, (rule, _) in zip(weights, members)), price)
        return digit_costs(prices, shares), [rule[2][0] for rule, _ in members]

    def test_by_all_choices_of_rules(self):
        random = Random(441)
        names = {"low": 0, "high": 0, "mine": 0}
        for _ in range(400):
            bits = random.randint(1, 3)
            rules = some_rules(random, bits)
            most = random.choice((0, 1, 2, 9, 10 ** 20))
            prices = [random.randint(-most, most) for _ in range(bits)]
            cost, kinds = self.judged(prices, rules, random.random() < 0.5)
            self.assertEqual(cost, least_by_hand(prices, side_rules(bits) + rules))
            for kind in kinds:
                names[kind] += 1
        self.assertGreater(min(names.values()), 50)

    def test_wide_boxes(self):
        random = Random(442)
        for _ in range(100):
            rules = [rule for _ in range(4) for rule in some_rules(random, 10)]
            most = random.choice((0, 1, 9))
            self.judged([random.randint(-most, most) for _ in range(10)], rules, random.random() < 0.5)

    def test_no_rules(self):
        self.assertEqual(self.judged([3, 0, -2], [], False), (-2, ["low", "low", "high"]))


if __name__ == "__main__":
    unittest.main()
