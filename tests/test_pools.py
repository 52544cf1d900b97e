"""Tests of letbychecks.pools: [10.1], [10.2], [10.3], [10.4], [10.5]."""

import unittest
from random import Random

from letbychecks.codes import Code
from letbychecks.corners import corner_prices
from letbychecks.errors import BadPicks, BadPool, BadWish
from letbychecks.flips import flip_fault
from letbychecks.integral import broken_corners
from letbychecks.letrows import is_let
from letbychecks.peeling import peel_erased
from letbychecks.pools import check_pool, check_wishes, find_pool, least_pools, least_spoilers, pool_fault, wish_fault
from letbychecks.pools import with_picks
from letbychecks.verdicts import verdict_at
from tests.helpers import FIVE, HALF_ROW, ODD_THINGS, Raises, lots_of, some_code, some_prices, some_row, sums_by_hand
from tests.helpers import words_by_hand

POOL = ((2,), (0, 1, 2, 3, 4))
FOOLED = ("right", (0, 0, -1, 0, 0))
WRONG_POOLS = ODD_THINGS[:11] + ((), [], [(2,)] * 6, {(2,)}, "2", {(2,): 1})


def some_wish(random, code):
    """A wish by chance."""
    word = random.choice(("right", "right", "flips", "erased", "barred"))
    if word == "right":
        return word, some_prices(random, code, random.choice((1, 9)))
    if word == "flips":
        return word, random.randint(0, min(2, code.bits))
    if word == "erased":
        return word, random.sample(range(code.bits), random.randint(0, code.bits))
    return [word, list(some_row(random, code.bits, (1, 2, 3)))]


def keeps(code, word, thing):
    """Whether the code keeps a wish, as the other parts of the document tell it."""
    if word == "right":
        return verdict_at(code, thing) == "right"
    if word == "flips":
        return all(flip_fault(code, lot) is None for lot in lots_of(range(code.bits), [thing]))
    if word == "erased":
        return peel_erased(code, thing).left == ()
    return not is_let(code, thing)


def do_by_hand(code, pool, wishes, picks):
    """Whether the picks do."""
    picked = Code(code.bits, [*code.checks, *[pool[place] for place in sorted(picks)]])
    return all(keeps(picked, word, thing) for word, thing in wishes)


def least_ones(lots):
    """Those of the lots that hold no other one."""
    return tuple(lot for lot in lots if not any(set(other) < set(lot) for other in lots))


def some_cases(seed, many):
    """Triples of a code, a pool and wishes by chance; every other code has a corner that is not whole."""
    random = Random(seed)
    cases = []
    while len(cases) < many:
        code = some_code(random, 6, 5)
        sums = sums_by_hand(code)
        if sums and (len(cases) % 2 == 0 or broken_corners(code)):
            pool = random.sample(sums, min(len(sums), random.randint(1, 5)))
            pool = [random.sample(lot, len(lot)) for lot in pool]
            wishes = [some_wish(random, code) for _ in range(random.randint(0, 2))]
            cases.append((code, pool, wishes + helped_wishes(random, code)))
    return cases


def helped_wishes(random, code):
    """At most two wishes that all sum checks together would keep, but not the code alone."""
    broken = broken_corners(code)
    if not broken:
        return []
    kinds = [("right", corner_prices(code, random.choice(broken))), ("barred", random.choice(broken))]
    return random.sample(kinds, random.randint(0, 2))


class Wishes(Raises, unittest.TestCase):
    def test_right_ones(self):
        self.assertEqual(check_wishes(FIVE, []), ())
        self.assertEqual(check_wishes(FIVE, ()), ())
        told = check_wishes(FIVE, [["right", [0, 1, -99, 99, 0]], ("flips", 0), ["flips", 5], ("erased", [3, 0]),
                                   ["barred", list(HALF_ROW)], ("erased", ())])
        self.assertEqual(told, (("right", (0, 1, -99, 99, 0)), ("flips", 0), ("flips", 5), ("erased", (0, 3)),
                                ("barred", HALF_ROW), ("erased", ())))
        self.assertEqual({type(told)} | {type(wish) for wish in told}, {tuple})
        self.assertEqual([type(thing) for _, thing in told], [tuple, int, int, tuple, tuple, tuple])

    def test_wrong_ones(self):
        wrong = ODD_THINGS + (
            5, "right", "flips", ("right",), ("flips",), ("flips", 1, 1), FOOLED + (1,), [], ["right", None],
            ("right", (0,) * 4), ("right", (0, 0, 0, 0, 100)), ("right", (0, 0, 0, 0, True)), ("right", "00000"),
            ("flips", True), ("flips", False), ("flips", -1), ("flips", 6), ("flips", None), ("flips", 1.0),
            ("flips", "1"), ("flips", (1,)), ("erased", (5,)), ("erased", (0, 0)), ("erased", None), ("erased", 1),
            ("erased", (True,)), ("barred", HALF_ROW[:4]), ("barred", HALF_ROW[:4] + (1,)), ("barred", None),
            ("barred", HALF_ROW[:4] + ((2, 1),)), ("barred", (0,) * 5), ("Right", FOOLED[1]), ("fooled", FOOLED[1]),
            ("", 1), (None, None), (True, 1), (1, "flips"), ("let", HALF_ROW), (("right",), FOOLED[1]), (b"flips", 1),
            (["flips"], 1), ({"flips"}, 1), {"flips": 1}, {"flips", 1})
        for wish in wrong:
            self.fails(BadWish, [0], check_wishes, FIVE, [wish])
            self.fails(BadWish, [2], check_wishes, FIVE, (("flips", 1), FOOLED, wish, None))
            self.fails(BadWish, [5], wish_fault, FIVE, [("flips", 5)] * 5 + [wish])

    def test_not_a_sequence_of_at_most_six(self):
        for call in (check_wishes, wish_fault):
            for wishes in (None, "", "flips", 0, True, {}, {("flips", 1)}, [("flips", 1)] * 7, [None] * 7, object()):
                self.fails(BadWish, [-1], call, FIVE, wishes)
        self.assertEqual(len(check_wishes(FIVE, [("flips", 1)] * 6)), 6)

    def test_first_that_is_not_kept(self):
        told = {}
        for code, _, wishes in some_cases(952, 150):
            unkept = [number for number, (word, thing) in enumerate(wishes) if not keeps(code, word, thing)]
            self.assertEqual(wish_fault(code, wishes), unkept[0] if unkept else None)
            for number, (word, _) in enumerate(wishes):
                told[word, number in unkept] = told.get((word, number in unkept), 0) + 1
        self.assertEqual(len(told), 8)
        self.assertGreater(min(told.values()), 3)

    def test_plain_ones(self):
        self.assertEqual(wish_fault(FIVE, [FOOLED]), 0)
        self.assertEqual(wish_fault(FIVE, [("flips", 0), ("flips", 1)]), 1)
        self.assertIsNone(wish_fault(FIVE, [("right", (0,) * 5), ("erased", (0, 2)), ("barred", ((1, 1),) * 5)]))
        self.assertEqual(wish_fault(FIVE, [("erased", (2,)), ("erased", (0, 1, 2))]), 1)
        self.assertEqual(wish_fault(FIVE, (("barred", HALF_ROW),)), 0)
        self.assertIsNone(wish_fault(Code(2, [(0,), (1,)]), [("flips", 2)]))
        self.assertIsNone(wish_fault(FIVE, ()))


class Pools(Raises, unittest.TestCase):
    def test_right_ones(self):
        self.assertEqual(check_pool(FIVE, [[2], (4, 3, 2, 1, 0)]), POOL)
        self.assertEqual(check_pool(FIVE, ((1, 0),)), ((0, 1),))
        pool = check_pool(FIVE, [[3, 4], [2], [1, 2, 0], [4, 1, 3, 0], [0, 1]])
        self.assertEqual(pool, ((3, 4), (2,), (0, 1, 2), (0, 1, 3, 4), (0, 1)))
        self.assertEqual({type(pool)} | {type(lot) for lot in pool}, {tuple})

    def test_not_a_sequence_of_one_to_five(self):
        for pool in WRONG_POOLS:
            if not isinstance(pool, (list, tuple)) or len(pool) in (0, 6):
                self.fails(BadPool, [-1], check_pool, FIVE, pool)

    def test_too_many_together(self):
        self.assertEqual(len(check_pool(Code(5, [(0, 1), (0, 1, 2)] * 30 + [(2,)]), [(0, 1), (2,)])), 2)
        self.fails(BadPool, [-1], check_pool, Code(5, [(0, 1), (0, 1, 2)] * 31), [(0, 1), (2,)])
        self.fails(BadPool, [-1], check_pool, Code(5, [(0, 1), (0, 1, 2)] * 31), [None, None])
        self.fails(BadPool, [-1], check_pool, Code(2, [(0, 1)] * 63), [(0, 1)])
        self.assertEqual(check_pool(Code(2, [(0, 1)] * 62), [(0, 1)]), ((0, 1),))
        self.fails(BadPool, [0], check_pool, Code(2, [(0, 1)] * 62), [(0,)])

    def test_first_wrong_item(self):
        for item in (None, "2", 2, True, (5,), (-1,), (2, 2), (True,), [[2]], {2}, (2.0,), (), [], (0,), (1, 2), (0, 2),
                     (0, 1, 2, 3), {2: 1}, object()):
            self.fails(BadPool, [0], check_pool, FIVE, [item])
            self.fails(BadPool, [0], check_pool, FIVE, [item, None])
            self.fails(BadPool, [2], check_pool, FIVE, ((2,), (0, 1), item, None))
        self.fails(BadPool, [1], check_pool, FIVE, [(2,), [2]])
        self.fails(BadPool, [2], check_pool, FIVE, [(0, 1, 2), (2,), [2, 0, 1], None])
        self.fails(BadPool, [0], check_pool, Code(3, []), [(0,)])

    def test_more_than_63_sum_checks(self):
        code = Code(10, [(bit,) for bit in range(10)])
        self.assertEqual(check_pool(code, [[9, 0], [3, 1, 4]]), ((0, 9), (1, 3, 4)))

    def test_with_picks(self):
        for picks, told in (((), ()), ([], ()), ([1], POOL[1:]), ((0, 1), POOL), ([1, 0], POOL)):
            self.assertEqual(with_picks(FIVE, [[2], [4, 3, 2, 1, 0]], picks), Code(5, FIVE.checks + told))
        for picks in (None, "0", 0, True, (2,), (-1,), (0, 0), (True,), [[0]], {0}, (0, 1, 2), (None,), (0.0,)):
            self.fails(BadPicks, [], with_picks, FIVE, POOL, picks)
        for pool in (None, [], [(0,)]):
            self.fails(BadPool, [-1 if not pool else 0], with_picks, FIVE, pool, None)

    def test_the_same_words_and_less_let_rows(self):
        random = Random(953)
        for code, pool, wishes in some_cases(954, 40):
            lot = random.choice(lots_of(range(len(pool))))
            picked = with_picks(code, pool, lot)
            self.assertEqual(words_by_hand(picked), words_by_hand(code))
            for row in [some_row(random, code.bits) for _ in range(6)]:
                self.assertTrue(is_let(code, row) or not is_let(picked, row))
            for word, thing in wishes:
                self.assertTrue(keeps(picked, word, thing) or not keeps(code, word, thing))


class LeastOnes(Raises, unittest.TestCase):
    def test_by_trying_all_picks(self):
        random = Random(955)
        told = {}
        for code, pool, wishes in some_cases(956, 150):
            lots = lots_of(range(len(pool)))
            do = [lot for lot in lots if do_by_hand(code, pool, wishes, lot)]
            least = least_ones(do)
            self.assertEqual(least_pools(code, pool, wishes), least)
            self.assertEqual(find_pool(code, pool, wishes), least[0] if least else None)
            spoil = [lot for lot in lots if tuple(place for place in range(len(pool)) if place not in lot) not in do]
            spoilers = least_spoilers(code, pool, wishes)
            self.assertEqual(spoilers, least_ones(spoil))
            self.assertEqual({type(least_pools(code, pool, wishes)), type(spoilers)}, {tuple})
            kind = "all" if least == ((),) else "none" if least == () else "some"
            told[kind] = told.get(kind, 0) + 1
            for lot in lots:
                self.assertEqual(lot in do, all(set(lot) & set(spoiler) for spoiler in spoilers))
                self.assertEqual(lot in spoil, all(set(lot) & set(picks) for picks in least))
                self.judged(code, pool, wishes, random.sample(lot, len(lot)), do)
        self.assertGreater(min(told.values()), 15)
        self.assertEqual(len(told), 3)

    def judged(self, code, pool, wishes, picks, do):
        """pool_fault tells what it must of picks, where these lots do."""
        fault = pool_fault(code, pool, wishes, picks)
        if tuple(sorted(picks)) not in do:
            self.assertEqual(fault, ("wish", wish_fault(with_picks(code, pool, picks), wishes)))
        else:
            spare = [place for place in sorted(picks) if tuple(sorted(set(picks) - {place})) in do]
            self.assertEqual(fault, ("spare", spare[0]) if spare else None)

    def test_several_least_ones(self):
        code = Code(5, [(1, 2, 3, 4), (1, 2, 4), (0,), (1, 2, 3, 4), (0, 2, 3, 4)])
        pool = [[4, 3, 0, 2], [1, 3], [3, 0], [0, 1], [0]]
        wishes = [["right", [2, -5, 0, -5, 0]]]
        self.assertEqual(least_pools(code, pool, wishes), ((1, 2), (1, 3), (2, 3)))
        self.assertEqual(least_spoilers(code, pool, wishes), ((1, 2), (1, 3), (2, 3)))
        self.assertEqual(find_pool(code, pool, wishes), (1, 2))
        self.assertEqual(pool_fault(code, pool, wishes, [3, 0, 2, 1]), ("spare", 0))
        self.assertEqual(pool_fault(code, pool, wishes, [3, 2, 1]), ("spare", 1))
        self.assertIsNone(pool_fault(code, pool, wishes, [3, 2]))
        code = Code(6, [(0, 2, 3, 4, 5), (0, 1, 2, 3, 4, 5), (1, 2, 3, 4)])
        pool = [[1], [0, 5], [5, 1, 0], [4, 3, 1, 2, 0, 5]]
        wishes = [("right", (5, -5, 0, 7, 0, -5))]
        self.assertEqual(least_pools(code, pool, wishes), ((0, 1), (0, 2)))
        self.assertEqual(least_spoilers(code, pool, wishes), ((0,), (1, 2)))

    def test_examples(self):
        self.assertEqual(least_pools(FIVE, POOL, (FOOLED,)), ((0,),))
        self.assertEqual(least_spoilers(FIVE, POOL, (FOOLED,)), ((0,),))
        self.assertEqual(find_pool(FIVE, POOL, [FOOLED]), (0,))
        both = (FOOLED, ("erased", (0, 1)))
        self.assertEqual((least_pools(FIVE, POOL, both), least_spoilers(FIVE, POOL, both)), ((), ((),)))
        self.assertIsNone(find_pool(FIVE, POOL, both))
        self.assertEqual((least_pools(FIVE, POOL, ()), least_spoilers(FIVE, POOL, [])), (((),), ()))
        self.assertEqual(find_pool(FIVE, POOL, ()), ())

    def test_words_of_the_fault(self):
        self.assertIsNone(pool_fault(FIVE, POOL, [FOOLED], [0]))
        self.assertEqual(pool_fault(FIVE, POOL, [FOOLED], ()), ("wish", 0))
        self.assertEqual(pool_fault(FIVE, POOL, [FOOLED], [1]), ("wish", 0))
        self.assertEqual(pool_fault(FIVE, POOL, [FOOLED], [1, 0]), ("spare", 1))
        self.assertEqual(pool_fault(FIVE, POOL, [], [1, 0]), ("spare", 0))
        self.assertEqual(pool_fault(FIVE, POOL, [("flips", 0), FOOLED, ("erased", (0, 1))], [0]), ("wish", 2))
        self.assertIsNone(pool_fault(FIVE, POOL, [], []))

    def test_errors_in_turn(self):
        for call in (least_pools, find_pool, least_spoilers):
            self.fails(BadPool, [-1], call, FIVE, (), None)
            self.fails(BadPool, [1], call, FIVE, [(2,), (0,)], [None])
            self.fails(BadWish, [-1], call, FIVE, POOL, None)
            self.fails(BadWish, [1], call, FIVE, POOL, [FOOLED, None])
        self.fails(BadPool, [-1], pool_fault, FIVE, (), None, None)
        self.fails(BadWish, [-1], pool_fault, FIVE, POOL, None, None)
        self.fails(BadWish, [0], pool_fault, FIVE, POOL, ["flips"], (9,))
        for picks in (None, (2,), (0, 0), (True,), "0"):
            self.fails(BadPicks, [], pool_fault, FIVE, POOL, [FOOLED], picks)


if __name__ == "__main__":
    unittest.main()
