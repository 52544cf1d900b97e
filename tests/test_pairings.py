"""Tests of letbychecks.pairings: [8.10], [8.11]."""

import unittest
from random import Random

from letbychecks.errors import BadLot, BadPrices, BadWord
from letbychecks.pairings import Pairing, better_round, odd_posts, pair_posts, pairing_fault
from letbychecks.ties import Web, web_code
from tests.helpers import ODD_THINGS, WRONG_PRICES, Raises, is_way_by_hand, lots_of, met_by_ties, rounds_by_hand
from tests.helpers import some_webs, words_by_hand

PLAIN = Web(4, ((0, 1), (0, 1), (1, 2), (2, 3), (2, 3)))
RING = Web(5, ((0, 1), (1, 2), (2, 3), (3, 4), (0, 4), (1, 3)))
ALIKE = Web(2, ((0, 1),) * 10)
K5 = Web(5, [(low, high) for high in range(5) for low in range(high)])
STAR = Web(11, [(0, post) for post in range(1, 11)])


def webs():
    """Webs by chance and those at the edges."""
    return some_webs(841, 60) + some_webs(842, 30, 6) + [PLAIN, RING, ALIKE, K5, STAR, Web(2, [(0, 1)])]


def prices_of(random, web):
    """Prices by chance: of both signs, few unlike ones, all below 0, and zeros."""
    low, high = random.choice(((-9, 9), (-1, 1), (-2, 0), (-3, -1), (0, 1), (0, 0), (-99, 99)))
    return tuple(random.randint(low, high) for _ in web.ties)


def cheapest_by_hand(web, prices):
    """The couple of least price and first word of it."""
    return min((sum(price for price, digit in zip(prices, word) if digit), word)
               for word in words_by_hand(web_code(web)))


def odd_by_hand(web, lot):
    """The posts that meet an odd number of ties of the lot."""
    return tuple(post for post in range(web.posts) if met_by_ties(web, lot, post) % 2)


class OddPosts(Raises, unittest.TestCase):
    def test_by_hand(self):
        random = Random(843)
        for web in webs():
            for lot in random.sample(lots_of(range(len(web.ties))), min(20, 1 << len(web.ties))):
                self.assertEqual(odd_posts(web, random.sample(lot, len(lot))), odd_by_hand(web, lot))
                self.assertEqual(len(odd_posts(web, lot)) % 2, 0)
        self.assertEqual(odd_posts(PLAIN, ()), ())
        self.assertEqual(odd_posts(PLAIN, [3, 0]), (0, 1, 2, 3))
        self.assertEqual(odd_posts(PLAIN, (0, 1, 2)), (1, 2))

    def test_bad_lots(self):
        for lot in (None, "0", (5,), (True,), (1, 1), {0}):
            self.fails(BadLot, [], odd_posts, PLAIN, lot)


class Pairs(Raises, unittest.TestCase):
    def judged(self, web, prices):
        """The pairing is right by hand; it is returned."""
        pairing = pair_posts(web, list(prices))
        self.assertIs(type(pairing), Pairing)
        self.assertEqual((pairing.price, pairing.word), cheapest_by_hand(web, prices))
        self.assertEqual({type(pairing.price), type(pairing.word)}, {int, tuple})
        self.assertEqual(pairing.start, tuple(tie for tie, price in enumerate(prices) if price < 0))
        self.assertIs(type(pairing.ways), tuple)
        self.assertEqual(list(pairing.ways), sorted(pairing.ways))
        ends = [post for low, high, _ in pairing.ways for post in (low, high)]
        self.assertEqual(tuple(sorted(ends)), odd_by_hand(web, pairing.start))
        ties = [tie for _, _, way in pairing.ways for tie in way]
        self.assertEqual(len(set(ties)), len(ties))
        for entry in pairing.ways:
            low, high, way = entry
            self.assertEqual({type(entry), type(way)}, {tuple})
            self.assertLess(low, high)
            self.assertTrue(is_way_by_hand(web, way, low, high))
        self.assertEqual({tie for tie, digit in enumerate(pairing.word) if digit}, set(pairing.start) ^ set(ties))
        return pairing

    def test_chance(self):
        random = Random(844)
        for web in webs():
            for _ in range(6):
                prices = prices_of(random, web)
                pairing = self.judged(web, prices)
                self.assertIsNone(pairing_fault(web, prices, pairing))
                self.assertIsNone(better_round(web, prices, pairing.word))

    def test_plain_ones(self):
        pairing = self.judged(PLAIN, (0, 0, -1, 0, 0))
        self.assertEqual((pairing.price, pairing.word, pairing.start, pairing.ways),
                         (0, (0,) * 5, (2,), ((1, 2, (2,)),)))
        self.assertEqual(self.judged(PLAIN, (0,) * 5).ways, ())
        self.assertEqual(self.judged(PLAIN, (-1, -1, 5, 5, 5)).word, (1, 1, 0, 0, 0))
        self.assertEqual(self.judged(STAR, (-99,) * 10).price, 0)
        self.assertEqual(self.judged(ALIKE, (-99,) * 10).price, -990)
        self.assertEqual(self.judged(ALIKE, (-1, 2) * 5).price, -4)

    def test_first_of_several(self):
        """All of price 0: the word 0. Of alike ties the last ones are taken first."""
        self.assertEqual(self.judged(K5, (0,) * 10).word, (0,) * 10)
        self.assertEqual(self.judged(ALIKE, (-1,) * 3 + (5,) * 7).word, (0, 1, 1) + (0,) * 7)
        self.assertEqual(self.judged(ALIKE, (-1,) + (0,) * 9).word, (1,) + (0,) * 8 + (1,))

    def test_bad_prices(self):
        for prices, place in WRONG_PRICES:
            self.fails(BadPrices, [place], pair_posts, PLAIN, prices)
            self.fails(BadPrices, [place], pairing_fault, PLAIN, prices, None)
            self.fails(BadPrices, [place], better_round, PLAIN, prices, None)


class Faults(unittest.TestCase):
    def fault(self, prices, *things):
        return pairing_fault(RING, prices, Pairing(*things))

    def test_words_in_turn(self):
        prices = (-1, 4, -1, 4, 4, 4)
        ways = ((0, 1, (0,)), (2, 3, (2,)))
        word = (0,) * 6
        self.assertIsNone(self.fault(prices, 0, word, (0, 2), ways))
        self.assertIsNone(self.fault(prices, 0, list(word), [0, 2], [[2, 3, [2]], [0, 1, [0]]]))
        for start in ((), (0,), (2, 0), (0, 2, 3), (0, 1), (2,), (0, 0, 2)):
            self.assertEqual(self.fault(prices, None, None, start, ()), "start")
        for wrong in ((), ways[:1], (*ways, ways[0]), (*ways, (0, 4, (4,))), ((1, 0, (0,)), ways[1]),
                      ((0, 1, (0,)), (2, 2, ())), ((0, 1, (0,)), (2, 4, (2, 3))), ((0, 1, (0,)), (1, 2, (1,))),
                      ((0, 1, (0,)), (2, 3, (2,)), (1, 1, ())), ((-1, 1, (0,)), ways[1]), ((0, 1, ()), (2, 7, ()))):
            self.assertEqual(self.fault(prices, None, None, (0, 2), wrong), "pairs")
        for wrong in (None, 0, "0", (ways[0], None), (ways[0], (2, 3)), (ways[0], (2, 3, (2,), 0)), ((0, 1.0, ()), ways[1]),
                      ((False, 1, (0,)), ways[1]), ((0, True, (0,)), ways[1]), ((None, 1, (0,)), ways[1])):
            self.assertEqual(self.fault(prices, None, None, (0, 2), wrong), "pairs")
        for wrong in ((), (1,), (0, 0), (0, 1), (4, 0), (6,), (-1,), (4, 3, 2, 5, 0), (5,), (4, 3, 5, 1, 2), (-6,),
                      (4, -3, 5), (True,), (0.0,), None, 0, "0", {0: 0}, (4, 3, 2, 1, 5, 1)):
            self.assertEqual(self.fault(prices, None, None, [0, 2], ((0, 1, wrong), ways[1])), "way")
        # The way back is another one, and no tie may be on two ways.
        self.assertEqual(self.fault(prices, None, None, [0, 2], ((0, 1, (5, 3, 4)), ways[1])), "way")
        self.assertEqual(self.fault(prices, None, None, [0, 2], ((0, 2, (0, 1)), (1, 3, (1, 2)))), "way")
        self.assertEqual(self.fault(prices, 0, word, [0, 2], ((0, 1, (4, 3, 5)), ways[1])), "word")
        for wrong in ODD_THINGS + ((0,) * 5, (0,) * 7, (0, 0, 0, 0, 0, 1), (False,) + word[1:], (0, 0, 2, 0, 0, 0),
                                   "000000", [None] * 6, (0.0,) * 6):
            self.assertEqual(self.fault(prices, None, wrong, (0, 2), ways), "word")
            self.assertEqual(self.fault(prices, 0, wrong, (0, 2), ways), "word")
        for wrong in ODD_THINGS + (1, 0.0, "0", (0, 1)):
            self.assertEqual(self.fault(prices, wrong, word, (0, 2), ways), "price")

    def test_other_words_than_the_cheapest(self):
        """It is not judged whether the word is a cheapest one."""
        prices = (-1, 4, -1, 4, 4, 4)
        self.assertIsNone(self.fault(prices, 11, (1, 0, 0, 1, 1, 1), (0, 2), ((0, 1, (4, 3, 5)), (2, 3, (2,)))))
        self.assertIsNone(self.fault(prices, 10, (1, 1, 1, 1, 1, 0), (0, 2), ((0, 3, (4, 3)), (1, 2, (1,)))))
        self.assertEqual(self.fault(prices, 0, (1, 1, 1, 1, 1, 0), (0, 2), ((0, 3, (4, 3)), (1, 2, (1,)))), "price")

    def test_no_odd_post(self):
        self.assertIsNone(self.fault((0,) * 6, 0, (0,) * 6, (), ()))
        self.assertEqual(self.fault((0,) * 6, 0, (0,) * 6, (), ((0, 1, (0,)),)), "pairs")
        self.assertIsNone(pairing_fault(ALIKE, (-1, -1) + (0,) * 8, Pairing(-2, (1, 1) + (0,) * 8, (0, 1), [])))

    def test_true_is_no_number(self):
        prices = (-1,) * 2 + (9,) * 8
        self.assertEqual(pairing_fault(ALIKE, prices, Pairing(-2, (True, 1) + (0,) * 8, (0, 1), ())), "word")
        prices = (1, -1) + (9,) * 8
        self.assertEqual(pairing_fault(ALIKE, prices, Pairing(False, (0,) * 10, (1,), ((0, 1, (1,)),))), "price")
        self.assertEqual(pairing_fault(ALIKE, prices, Pairing(0, (0,) * 10, (True,), ((0, 1, (1,)),))), "start")
        self.assertIsNone(pairing_fault(ALIKE, prices, Pairing(0, (0,) * 10, (1,), ((0, 1, (1,)),))))

    def test_chance(self):
        """One thing changed in a right pairing is told by its word."""
        random = Random(845)
        for web in some_webs(846, 40):
            prices = prices_of(random, web)
            right = pair_posts(web, prices)
            turned = list(right.word)
            turned[random.randrange(len(turned))] ^= 1
            self.assertEqual(pairing_fault(web, prices, Pairing(right.price + 1, right.word, right.start, right.ways)),
                             "price")
            self.assertEqual(pairing_fault(web, prices, Pairing(right.price, turned, right.start, right.ways)), "word")
            self.assertIsNone(pairing_fault(web, prices, Pairing(right.price, list(right.word), list(right.start),
                                                                 list(right.ways[::-1]))))


class BetterRounds(Raises, unittest.TestCase):
    def test_first_round_or_none_for_the_cheapest(self):
        random = Random(847)
        told = {True: 0, False: 0}
        for web in webs():
            prices = prices_of(random, web)
            words = words_by_hand(web_code(web))
            least = cheapest_by_hand(web, prices)[0]
            for word in random.sample(words, min(8, len(words))):
                cost = sum(price for price, digit in zip(prices, word) if digit)
                better = [lot for lot in rounds_by_hand(web)
                          if sum(prices[tie] * (1 - 2 * word[tie]) for tie in lot) < 0]
                found = better_round(web, prices, list(word))
                self.assertEqual(found, better[0] if better else None)
                self.assertEqual(found is None, cost == least)
                told[found is None] += 1
        self.assertGreater(min(told.values()), 50)

    def test_plain_ones(self):
        self.assertEqual(better_round(PLAIN, (0, -1, 0, 0, -1), (0,) * 5), (0, 1))
        self.assertEqual(better_round(PLAIN, (0, -1, 0, 0, -1), (1, 1, 0, 0, 0)), (3, 4))
        self.assertIsNone(better_round(PLAIN, (0, -1, 0, 0, -1), (1, 1, 0, 1, 1)))
        self.assertIsNone(better_round(PLAIN, (0,) * 5, (1, 1, 0, 1, 1)))
        self.assertIsNone(better_round(STAR, (-1,) * 10, (0,) * 10))
        self.assertEqual(better_round(ALIKE, (0,) * 8 + (-1, 1), (1,) * 10), (0, 9))

    def test_errors_in_turn(self):
        for word in ODD_THINGS + ((0,) * 4, (0, 0, 2, 0, 0), (True, 1, 0, 0, 0), "00000"):
            self.fails(BadWord, [-1], better_round, PLAIN, (0,) * 5, word)
        self.fails(BadWord, [0], better_round, PLAIN, (0,) * 5, (1, 0, 0, 0, 0))
        self.fails(BadWord, [1], better_round, PLAIN, (0,) * 5, (1, 1, 1, 0, 0))
        self.fails(BadWord, [2], better_round, PLAIN, (0,) * 5, (0, 0, 0, 1, 0))
        self.fails(BadPrices, [4], better_round, PLAIN, (0, 0, 0, 0, 100), (1, 0, 0, 0, 0))
        # A check's number counts just the posts that have ties.
        self.fails(BadWord, [0], better_round, Web(9, [(3, 5), (5, 7)]), (0, 0), (1, 1))
        self.fails(BadWord, [1], better_round, Web(9, [(3, 5), (5, 7)]), (0, 0), (0, 1))


if __name__ == "__main__":
    unittest.main()
