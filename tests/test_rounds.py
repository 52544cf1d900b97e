"""Tests of letbychecks.rounds: [8.4], [8.5], [8.6], [8.7], [8.8]."""

import unittest
from itertools import permutations
from random import Random

from letbychecks.errors import BadLot, BadPost, NotApart, NotRound
from letbychecks.flips import flip_fault
from letbychecks.rays import all_rays
from letbychecks.rounds import TwoRounds, all_rounds, all_ways, apart_fault, apart_prices, apart_ray, apart_row
from letbychecks.rounds import find_apart, round_fault, round_posts, web_rays
from letbychecks.stops import stop_lots
from letbychecks.ties import Web, web_code
from letbychecks.verdicts import best_word, price_gap
from tests.helpers import ODD_THINGS, Raises, aparts_by_hand, digit_costs, fault_by_hand, is_corner_by_hand
from tests.helpers import is_ray_by_hand, is_way_by_hand, lots_of, posts_of_ties, ratios, round_fault_by_hand
from tests.helpers import rounds_by_hand, some_webs, ways_by_hand, words_by_hand

PLAIN = Web(4, ((0, 1), (0, 1), (1, 2), (2, 3), (2, 3)))
# Two rounds of three ties at posts 0 to 2 and 5 to 7, and from one to the other two ways of two ties.
WIDE = Web(9, ((0, 1), (1, 2), (0, 2), (2, 3), (3, 5), (5, 6), (6, 7), (5, 7), (1, 4), (4, 6)))
LOOSE = Web(6, ((0, 1), (0, 1), (2, 3), (2, 3), (3, 4)))
ALIKE = Web(2, ((0, 1),) * 10)
K5 = Web(5, [(low, high) for high in range(5) for low in range(high)])
TREE = Web(11, [(post, post + 1) for post in range(10)])
WRONG_LOTS = (None, "01", 0, (5,), (-1,), (True,), (0, 0), [[0]], {0}, (None,), (0, 1.0), {0: 1})


def webs():
    """Webs by chance and those at the edges."""
    return some_webs(821, 60) + [PLAIN, WIDE, LOOSE, ALIKE, K5, TREE, Web(2, [(0, 1)])]


class Rounds(Raises, unittest.TestCase):
    def test_fault_of_all_lots(self):
        random = Random(822)
        told = {}
        for web in webs():
            for lot in random.sample(lots_of(range(len(web.ties))), min(60, 1 << len(web.ties))):
                fault = round_fault_by_hand(web, lot)
                told[fault] = told.get(fault, 0) + 1
                for thing in (lot, list(lot), random.sample(lot, len(lot))):
                    self.assertEqual(round_fault(web, thing), fault)
        self.assertEqual(set(told), {None, "empty", "post", "parts"})

    def test_plain_ones(self):
        self.assertEqual(round_fault(PLAIN, ()), "empty")
        self.assertIsNone(round_fault(PLAIN, [1, 0]))
        self.assertIsNone(round_fault(WIDE, (2, 0, 1)))
        self.assertEqual(round_fault(PLAIN, (0,)), "post")
        self.assertEqual(round_fault(PLAIN, (0, 1, 2)), "post")
        self.assertEqual(round_fault(ALIKE, (0, 1, 2)), "post")
        self.assertEqual(round_fault(ALIKE, (0, 1, 2, 3)), "post")
        self.assertEqual(round_fault(PLAIN, (0, 1, 3, 4)), "parts")
        self.assertEqual(round_fault(PLAIN, (4, 0, 3, 2, 1)), "post")
        self.assertEqual(round_fault(K5, (0, 1, 2)), None)

    def test_all_rounds(self):
        for web in webs():
            self.assertEqual(list(all_rounds(web)), rounds_by_hand(web))
        self.assertEqual(list(all_rounds(PLAIN)), [(0, 1), (3, 4)])
        self.assertEqual(list(all_rounds(TREE)), [])
        self.assertEqual(len(list(all_rounds(ALIKE))), 45)
        self.assertEqual([len(lot) for lot in all_rounds(K5)], [3] * 10 + [4] * 15 + [5] * 12)

    def test_posts_of_rounds(self):
        for web in webs():
            for lot in rounds_by_hand(web):
                self.assertEqual(round_posts(web, lot), tuple(sorted(posts_of_ties(web, lot))))
                self.assertEqual(round_posts(web, list(lot[::-1])), tuple(sorted(posts_of_ties(web, lot))))
        self.assertEqual(round_posts(WIDE, [5, 7, 6]), (5, 6, 7))
        self.assertEqual(round_posts(WIDE, (3, 4, 5, 9, 8, 1)), (1, 2, 3, 4, 5, 6))

    def test_no_rounds(self):
        for lot, what in (((), "empty"), ((2,), "post"), ([0, 1, 3, 4], "parts")):
            self.fails(NotRound, [what], round_posts, PLAIN, lot)

    def test_bad_lots_come_first(self):
        for lot in WRONG_LOTS:
            self.fails(BadLot, [], round_fault, PLAIN, lot)
            self.fails(BadLot, [], round_posts, PLAIN, lot)
        self.fails(BadLot, [], round_posts, PLAIN, (0, 0))


class Ways(Raises, unittest.TestCase):
    def test_by_hand(self):
        for web in webs():
            for one in range(web.posts):
                for other in range(web.posts):
                    ways = list(all_ways(web, one, other))
                    self.assertEqual(ways, ways_by_hand(web, one, other))
                    self.assertTrue(all(is_way_by_hand(web, way, one, other) for way in ways))

    def test_way_back(self):
        for web in (PLAIN, WIDE, K5):
            for one, other in permutations(range(web.posts), 2):
                back = [way[::-1] for way in all_ways(web, other, one)]
                self.assertEqual(sorted(all_ways(web, one, other)), sorted(back))

    def test_plain_ones(self):
        self.assertEqual(list(all_ways(PLAIN, 0, 0)), [()])
        self.assertEqual(list(all_ways(PLAIN, 0, 3)), [(0, 2, 3), (0, 2, 4), (1, 2, 3), (1, 2, 4)])
        self.assertEqual(list(all_ways(PLAIN, 3, 1)), [(3, 2), (4, 2)])
        self.assertEqual(list(all_ways(WIDE, 2, 1)), [(1,), (2, 0), (3, 4, 5, 9, 8), (3, 4, 7, 6, 9, 8)])
        self.assertEqual(list(all_ways(LOOSE, 0, 2)), [])
        self.assertEqual(list(all_ways(LOOSE, 5, 5)), [()])
        self.assertEqual(list(all_ways(LOOSE, 5, 0)), [])
        self.assertEqual(list(all_ways(ALIKE, 1, 0)), [(tie,) for tie in range(10)])
        self.assertEqual(list(all_ways(TREE, 10, 0)), [(9, 8, 7, 6, 5, 4, 3, 2, 1, 0)])
        self.assertEqual(len(list(all_ways(K5, 0, 4))), 16)

    def test_bad_posts(self):
        def ways(web, one, other):
            return list(all_ways(web, one, other))
        for post in (4, -1, True, None, "0", 1.0, (0,), []):
            self.fails(BadPost, [post], ways, PLAIN, post, 1)
            self.fails(BadPost, [post], ways, PLAIN, 1, post)
            self.fails(BadPost, [post], ways, PLAIN, post, 9)
        self.fails(BadPost, [9], ways, PLAIN, 9, None)


class Apart(Raises, unittest.TestCase):
    def test_found_exactly_if_there_is_one(self):
        told = {True: 0, False: 0}
        for web in webs():
            two = find_apart(web)
            aparts = aparts_by_hand(web)
            told[two is None] += 1
            self.assertEqual(two is None, not aparts)
            if two is not None:
                self.assertIs(type(two), TwoRounds)
                self.assertEqual({type(two.one), type(two.other), type(two.way)}, {tuple})
                self.assertIn((two.one, two.other, two.way), aparts
                              + [(other, one, way[::-1]) for one, other, way in aparts])
                self.assertIsNone(apart_fault(web, two))
        self.assertGreater(min(told.values()), 10)
        self.assertIsNone(find_apart(LOOSE))
        self.assertIsNone(find_apart(K5))
        self.assertIsNone(find_apart(TREE))
        self.assertIsNotNone(find_apart(WIDE))

    def test_none_exactly_if_no_piece_has_two_rounds_without_a_common_post(self):
        for web in webs():
            couples = [(one, other) for one in rounds_by_hand(web) for other in rounds_by_hand(web)
                       if not posts_of_ties(web, one) & posts_of_ties(web, other)
                       and any(web.ties[one[0]][0] in piece and web.ties[other[0]][0] in piece
                               for piece in web.piece_posts)]
            self.assertEqual(find_apart(web) is None, not couples)

    def test_right_ones_in_any_order(self):
        random = Random(823)
        for web in webs():
            for one, other, way in aparts_by_hand(web)[:30]:
                self.assertIsNone(apart_fault(web, TwoRounds(one, other, way)))
                self.assertIsNone(apart_fault(web, TwoRounds(list(other), random.sample(one, len(one)), way[::-1])))
                self.assertIsNone(apart_fault(web, TwoRounds(one, list(other[::-1]), list(way))))
                self.assertEqual(apart_fault(web, TwoRounds(one, other, ())), "way")
                if len(way) > 1:
                    self.assertEqual(apart_fault(web, TwoRounds(one, other, way[::-1])), "way")
                    self.assertEqual(apart_fault(web, TwoRounds(one, other, way[1:])), "way")
                    self.assertEqual(apart_fault(web, TwoRounds(one, other, way[:-1])), "way")
                else:
                    # One tie is walked from either end.
                    self.assertIsNone(apart_fault(web, TwoRounds(other, one, way)))

    def test_each_way_by_chance(self):
        """Of all short rows of ties, just those that are told by hand are right."""
        random = Random(824)
        for web in (WIDE, PLAIN):
            aparts = aparts_by_hand(web)
            for one, other in {(one, other) for one, other, _ in aparts}:
                ways = {way for first, second, way in aparts if (first, second) == (one, other)}
                rows = set(ways) | {tuple(random.choices(range(len(web.ties)), k=random.randint(0, 5)))
                                    for _ in range(300)}
                rows |= {row for way in ways for row in permutations(way)}
                for row in rows:
                    fault = None if row in ways else "way"
                    self.assertEqual(apart_fault(web, TwoRounds(one, other, row)), fault, row)

    def test_words_in_turn(self):
        right = ((0, 1, 2), (5, 6, 7), (3, 4))
        meets = ((0, 1, 2), (3, 4, 5, 9, 8, 1), (3, 4))
        self.assertIsNone(round_fault(WIDE, meets[1]))
        for thing in ODD_THINGS + ((), (0, 1), (0, 1, 2, 0), (0, 1, True), (0, 1, 2, 5, 6, 7), (0, 1, 10), {0, 1, 2}):
            self.assertEqual(apart_fault(WIDE, TwoRounds(thing, None, None)), "one")
            self.assertEqual(apart_fault(WIDE, TwoRounds(thing, right[1], right[2])), "one")
            self.assertEqual(apart_fault(WIDE, TwoRounds(right[0], thing, None)), "other")
            self.assertEqual(apart_fault(WIDE, TwoRounds(right[0], thing, right[2])), "other")
        for thing in ODD_THINGS + ((3, 4),):
            self.assertEqual(apart_fault(WIDE, TwoRounds(right[0], right[0], thing)), "meet")
            self.assertEqual(apart_fault(WIDE, TwoRounds(*meets[:2], thing)), "meet")
        for thing in ODD_THINGS + ((4, 3), (3,), (4,), (3, 4, 4), (3, 3, 4), (0, 8, 9), (3, 4, 5), (1, 3, 4), (3, 9),
                                   (3, 10), (3, True), (3.0, 4), "34", {3: 4}, (3, -6), (-7, 4), (-7, -6), (10,),
                                   (10, 4), (11,)):
            self.assertEqual(apart_fault(WIDE, TwoRounds(right[0], right[1], thing)), "way")
        for way in ((3, 4), [8, 9]):
            self.assertIsNone(apart_fault(WIDE, TwoRounds(*right[:2], way)))
        self.assertEqual(apart_fault(WIDE, TwoRounds(right[1], right[0], (3, 4))), "way")
        self.assertIsNone(apart_fault(WIDE, TwoRounds(right[1], right[0], (4, 3))))

    def test_a_way_meets_no_post_twice(self):
        web = Web(6, ((0, 1), (0, 1), (1, 2), (2, 3), (2, 3), (2, 4), (4, 5), (4, 5)))
        self.assertIsNone(apart_fault(web, TwoRounds((0, 1), (6, 7), (2, 5))))
        self.assertEqual(apart_fault(web, TwoRounds((0, 1), (6, 7), (2, 3, 4, 5))), "way")
        self.assertEqual(apart_fault(web, TwoRounds((0, 1), (3, 4), (2, 5))), "way")
        self.assertEqual(apart_fault(web, TwoRounds((6, 7), (0, 1), (2, 5))), "way")
        self.assertEqual(apart_fault(web, TwoRounds((6, 7), (0, 1), (7, 5, 2))), "way")

    def test_pieces_that_do_not_hang_together(self):
        for way in ((), (4,), (0,), (0, 2)):
            self.assertEqual(apart_fault(LOOSE, TwoRounds((0, 1), (2, 3), way)), "way")


class RowsOfApart(Raises, unittest.TestCase):
    def test_row_ray_and_prices(self):
        random = Random(825)
        for web in webs():
            code = web_code(web)
            aparts = aparts_by_hand(web)
            for one, other, way in random.sample(aparts, min(4, len(aparts))):
                two = TwoRounds(list(one[::-1]), other, list(way))
                row = apart_row(web, two)
                kinds = [0 if tie in one or tie in other else 1 if tie in way else 2 for tie in range(len(web.ties))]
                self.assertEqual(row, tuple(ratios("1/2", 1, 0)[kind] for kind in kinds))
                self.assertEqual(apart_ray(web, two), tuple((1, 2, 0)[kind] for kind in kinds))
                self.assertEqual(apart_prices(web, two), tuple((0, -1, 99)[kind] for kind in kinds))
                self.assertEqual({type(row), type(apart_ray(web, two)), type(apart_prices(web, two))}, {tuple})
                self.assertIsNone(fault_by_hand(code, row))
                self.assertTrue(is_corner_by_hand(code, row))
                self.assertTrue(is_ray_by_hand(code, apart_ray(web, two)))
                self.assertEqual(digit_costs(apart_prices(web, two), row), -len(way))
                self.assertEqual(best_word(code, apart_prices(web, two))[0], 0)
                self.assertGreaterEqual(price_gap(code, apart_prices(web, two)), (len(way), 1))

    def test_not_apart(self):
        for call in (apart_row, apart_ray, apart_prices):
            self.fails(NotApart, ["one"], call, PLAIN, TwoRounds((0,), (), None))
            self.fails(NotApart, ["other"], call, PLAIN, TwoRounds((1, 0), None, None))
            self.fails(NotApart, ["meet"], call, PLAIN, TwoRounds((1, 0), [0, 1], None))
            self.fails(NotApart, ["way"], call, PLAIN, TwoRounds((1, 0), [3, 4], None))
            self.fails(NotApart, ["way"], call, PLAIN, TwoRounds((1, 0), [3, 4], (2, 2)))

    def test_example(self):
        two = TwoRounds((0, 1), (3, 4), (2,))
        self.assertEqual(apart_row(PLAIN, two), ratios("1/2", "1/2", 1, "1/2", "1/2"))
        self.assertEqual(apart_ray(PLAIN, two), (1, 1, 2, 1, 1))
        self.assertEqual(apart_prices(PLAIN, two), (0, 0, -1, 0, 0))
        found = find_apart(PLAIN)
        self.assertEqual({found.one, found.other}, {(0, 1), (3, 4)})
        self.assertEqual(found.way, (2,))


class Rays(unittest.TestCase):
    def test_rays_of_the_cone(self):
        for web in some_webs(826, 60, 7) + [PLAIN, LOOSE]:
            self.assertEqual(tuple(web_rays(web)), all_rays(web_code(web)))

    def test_rounds_and_two_rounds_apart(self):
        for web in webs():
            rays = list(web_rays(web))
            told = [tuple(int(tie in lot) for tie in range(len(web.ties))) for lot in rounds_by_hand(web)]
            told += [tuple(1 if tie in one + other else 2 * (tie in way) for tie in range(len(web.ties)))
                     for one, other, way in aparts_by_hand(web)]
            self.assertEqual(rays, sorted(told))
            self.assertEqual(len(set(rays)), len(rays))

    def test_flips_and_stop_lots(self):
        random = Random(827)
        for web in some_webs(828, 12, 8) + [PLAIN, WIDE]:
            code = web_code(web)
            rays = list(web_rays(web))
            lots = lots_of(range(code.bits))
            for lot in random.sample(lots, min(12, len(lots))):
                mended = all(2 * sum(ray[tie] for tie in lot) < sum(ray) for ray in rays)
                self.assertEqual(flip_fault(code, lot) is None, mended)
            unions = {frozenset()}
            for ray in rays:
                unions |= {union | {tie for tie, entry in enumerate(ray) if entry} for union in unions}
            self.assertEqual(unions, {frozenset(lot) for lot in stop_lots(code)})

    def test_plain_ones(self):
        self.assertEqual(list(web_rays(PLAIN)), [(0, 0, 0, 1, 1), (1, 1, 0, 0, 0), (1, 1, 2, 1, 1)])
        self.assertEqual(list(web_rays(TREE)), [])
        self.assertEqual(list(web_rays(LOOSE)), [(0, 0, 1, 1, 0), (1, 1, 0, 0, 0)])
        self.assertIn((1, 1, 1, 2, 2, 1, 1, 1, 0, 0), list(web_rays(WIDE)))
        self.assertEqual(len(words_by_hand(web_code(PLAIN))), 4)


if __name__ == "__main__":
    unittest.main()
