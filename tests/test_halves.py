"""Tests of letbychecks.halves: [8.9]."""

import unittest
from itertools import combinations
from random import Random

from letbychecks.cheapest import cheapest_let
from letbychecks.corners import corners_of
from letbychecks.errors import TooMany
from letbychecks.halves import web_corners
from letbychecks.rounds import find_apart
from letbychecks.ties import Web, web_code
from tests.helpers import HALF_ROW, Raises, digit_costs, fractions, is_corner_by_hand, lots_of, met_by_ties
from tests.helpers import posts_of_ties, ratio, ratios, rounds_by_hand, some_prices, some_webs, words_by_hand

PLAIN = Web(4, ((0, 1), (0, 1), (1, 2), (2, 3), (2, 3)))
THREE_ROUNDS = Web(7, ((0, 1), (0, 1), (2, 3), (2, 3), (4, 5), (4, 5), (1, 2), (3, 4)))
ALIKE = Web(2, ((0, 1),) * 8)
K4 = Web(4, [(low, high) for high in range(4) for low in range(high)])


def corners_by_rounds(web):
    """All rows made as the point tells, ascending, by trying all choices of rounds and lots."""
    rounds = rounds_by_hand(web)
    rows = set()
    for many in range(len(rounds) + 1):
        for chosen in combinations(rounds, many):
            posts = [post for lot in chosen for post in posts_of_ties(web, lot)]
            if len(set(posts)) == len(posts):
                halves = {tie for lot in chosen for tie in lot}
                for ones in lots_of(set(range(len(web.ties))) - halves):
                    odd = {post for post in range(web.posts) if met_by_ties(web, ones, post) % 2}
                    if odd <= set(posts) and all(len(odd & posts_of_ties(web, lot)) % 2 for lot in chosen):
                        rows.add(tuple(1 if tie in halves else 2 * (tie in ones) for tie in range(len(web.ties))))
    return [tuple(ratios(0, "1/2", 1)[double] for double in row) for row in sorted(rows)]


class Corners(Raises, unittest.TestCase):
    def test_corners_of_the_code(self):
        for web in some_webs(831, 60, 6) + [PLAIN, K4, Web(2, [(0, 1)]), Web(2, [(0, 1)] * 6), Web(20, [(3, 19)])]:
            self.assertEqual(tuple(web_corners(web)), corners_of(web_code(web)))

    def test_made_of_rounds_and_ones(self):
        for web in some_webs(832, 30, 8) + [THREE_ROUNDS, PLAIN]:
            if len(rounds_by_hand(web)) < 8:
                self.assertEqual(list(web_corners(web)), corners_by_rounds(web))

    def test_ascending_and_each_once(self):
        random = Random(833)
        for web in some_webs(834, 30, 8) + [THREE_ROUNDS, ALIKE]:
            corners = list(web_corners(web))
            shares = [fractions(row) for row in corners]
            self.assertEqual(shares, sorted(shares))
            self.assertEqual(len(set(corners)), len(corners))
            self.assertTrue({share for row in corners for share in row} <= {(0, 1), (1, 2), (1, 1)})
            for row in random.sample(corners, min(5, len(corners))):
                self.assertTrue(is_corner_by_hand(web_code(web), row))

    def test_only_words_where_no_two_rounds_are_apart(self):
        told = {True: 0, False: 0}
        for web in some_webs(835, 160, 8) + [PLAIN, THREE_ROUNDS, ALIKE, K4]:
            words = [ratios(*word) for word in words_by_hand(web_code(web))]
            corners = list(web_corners(web))
            whole = [row for row in corners if all(share[1] == 1 for share in row)]
            self.assertEqual(whole, words)
            apart = find_apart(web)
            told[apart is None] += 1
            self.assertEqual(corners == words, apart is None)
        self.assertGreater(min(told.values()), 5)

    def test_price_of_the_cheapest_row(self):
        random = Random(836)
        for web in some_webs(837, 30, 8) + [PLAIN, THREE_ROUNDS]:
            prices = some_prices(random, web_code(web))
            least = min(digit_costs(prices, row) for row in web_corners(web))
            self.assertEqual(cheapest_let(web_code(web), prices).price, ratio(least))

    def test_plain_ones(self):
        self.assertEqual(list(web_corners(PLAIN)), [ratios(0, 0, 0, 0, 0), ratios(0, 0, 0, 1, 1), HALF_ROW,
                                                    ratios(1, 1, 0, 0, 0), ratios(1, 1, 0, 1, 1)])
        self.assertEqual(list(web_corners(Web(5, [(0, 4)]))), [ratios(0)])
        self.assertEqual(len(list(web_corners(ALIKE))), 128)
        # A word has no one between the rounds; a half row has halves on two of the three rounds and ones between them.
        self.assertEqual(len(list(web_corners(THREE_ROUNDS))), 8 + 2 + 2 + 2)

    def test_too_many_ties(self):
        def corners(web):
            return list(web_corners(web))
        for many in (9, 10):
            self.fails(TooMany, [8], corners, Web(2, [(0, 1)] * many))
            self.fails(TooMany, [8], corners, Web(11, [(post, post + 1) for post in range(many)]))


if __name__ == "__main__":
    unittest.main()
