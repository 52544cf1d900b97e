"""Tests of letbychecks.bench: [10.8], [10.9]."""

import unittest
from random import Random

from letbychecks.bench import Bench
from letbychecks.cheapest import cheapest_let
from letbychecks.codes import Code
from letbychecks.edits import check_edit, edited_all, edited_pair
from letbychecks.errors import BadEdit, BadPrices, BadRow, BadWish, NothingDone
from letbychecks.letrows import is_let
from letbychecks.pools import wish_fault
from letbychecks.verdicts import verdict_at
from tests.helpers import FIVE, HALF_ROW, WRONG_PRICES, Raises, ratios, some_code, some_prices, some_row
from tests.test_edits import FULL, WRONG_EDITS, some_edit

PRICES = (0, 0, -1, 0, 0)
ZEROS = ratios(0, 0, 0, 0, 0)
LAST = ratios(0, 0, 0, 1, 1)


def state(bench):
    """All that can be seen of a bench."""
    return bench.code, bench.prices, bench.log, bench.watched


class Edits(Raises, unittest.TestCase):
    def test_new(self):
        prices = list(PRICES)
        bench = Bench(FIVE, prices)
        self.assertIs(bench.code, FIVE)
        prices[0] = 9
        self.assertEqual(state(bench), (FIVE, PRICES, (), ()))
        self.assertEqual({type(bench.prices), type(bench.log), type(bench.watched)}, {tuple})
        for wrong, place in WRONG_PRICES:
            self.fails(BadPrices, [place], Bench, FIVE, wrong)
            self.fails(BadPrices, [place], Bench.from_edits, FIVE, wrong, None)

    def test_each_door(self):
        bench = Bench(FIVE, PRICES)
        self.assertIsNone(bench.do_edit(["add", 0, [4, 2]]))
        self.assertEqual(bench.code, Code(5, ((2, 4),) + FIVE.checks))
        self.assertIsNone(bench.add_check([2]))
        self.assertIsNone(bench.add_check((3, 0), 1))
        self.assertIsNone(bench.add_check((1,), number=0))
        self.assertEqual(bench.code, Code(5, ((1,), (2, 4), (0, 3)) + FIVE.checks + ((2,),)))
        self.assertIsNone(bench.drop_check(2))
        self.assertIsNone(bench.drop_check(0))
        self.assertEqual(bench.code, Code(5, ((2, 4),) + FIVE.checks + ((2,),)))
        self.assertIsNone(bench.set_price(4, -99))
        self.assertIsNone(bench.set_price(4, -99))
        self.assertEqual(bench.prices, (0, 0, -1, 0, -99))
        self.assertEqual(bench.log, (("add", 0, (2, 4)), ("add", 5, (2,)), ("add", 1, (0, 3)), ("add", 0, (1,)),
                                     ("drop", 2), ("drop", 0), ("price", 4, -99), ("price", 4, -99)))

    def test_wrong_edits_change_nothing(self):
        bench = Bench.from_edits(FIVE, PRICES, [("price", 0, 4)])
        bench.watch_row(HALF_ROW)
        before = state(bench)
        for edit in WRONG_EDITS:
            self.fails(BadEdit, [0], bench.do_edit, edit)
            self.assertEqual(state(bench), before)
        for lot, number in (((), 0), (None, 0), ((5,), 0), ((0, 0), 0), ((True,), 0), ("0", 0), ((0,), 5), ((0,), -1),
                            ((0,), True), ((0,), "0"), ((0,), (0,)), ((), None), ((9,), None)):
            self.fails(BadEdit, [0], bench.add_check, lot, number)
        for number in (4, -1, True, None, "0", 1.0, (0,)):
            self.fails(BadEdit, [0], bench.drop_check, number)
        for bit, price in ((5, 0), (-1, 0), (True, 0), (None, 0), (0, 100), (0, -100), (0, True), (0, None), (0, 1.0)):
            self.fails(BadEdit, [0], bench.set_price, bit, price)
        self.assertEqual(state(bench), before)
        full = Bench(FULL, (0, 0))
        self.fails(BadEdit, [0], full.add_check, (0,))
        self.fails(BadEdit, [0], full.add_check, (0,), 0)
        self.assertEqual(state(full), (FULL, (0, 0), (), ()))
        empty = Bench(Code(2, []), (0, 0))
        self.fails(BadEdit, [0], empty.drop_check, 0)
        self.assertIsNone(empty.add_check((1,)))

    def test_nothing_is_kept_of_what_is_passed(self):
        bench = Bench(FIVE, PRICES)
        lot = [4, 2]
        edit = ["add", 0, lot]
        bench.do_edit(edit)
        lot[0] = 3
        edit[1] = 2
        self.assertEqual(bench.log, (("add", 0, (2, 4)),))
        self.assertEqual(bench.code.checks[0], (2, 4))

    def test_taking_back(self):
        bench = Bench(FIVE, PRICES)
        self.fails(NothingDone, [], bench.take_back)
        for edit in (["add", 1, [4, 2]], ("drop", 0), ["price", 2, -1], ["price", 2, 5]):
            bench.do_edit(edit)
        self.assertEqual(bench.take_back(), ("price", 2, 5))
        self.assertEqual(bench.prices, PRICES)
        self.assertEqual(bench.take_back(), ("price", 2, -1))
        self.assertEqual(bench.take_back(), ("drop", 0))
        self.assertEqual(state(bench), (Code(5, ((0, 1), (2, 4)) + FIVE.checks[1:]), PRICES,
                                        (("add", 1, (2, 4)),), ()))
        self.assertEqual(bench.take_back(), ("add", 1, (2, 4)))
        self.assertEqual(state(bench), (FIVE, PRICES, (), ()))
        self.fails(NothingDone, [], bench.take_back)
        self.fails(NothingDone, [], bench.take_back)
        bench.drop_check(3)
        self.assertEqual(bench.log, (("drop", 3),))

    def test_chance(self):
        random = Random(1021)
        for _ in range(25):
            code = some_code(random, 6, 5)
            prices = some_prices(random, code)
            bench = Bench(code, prices)
            states = []
            for _ in range(60):
                if states and random.random() < 0.4:
                    edit = bench.log[-1]
                    self.assertEqual(bench.take_back(), edit)
                    self.assertEqual(state(bench), states.pop())
                else:
                    edit = some_edit(random, bench.code)
                    pair = edited_pair(bench.code, bench.prices, edit)
                    states.append(state(bench))
                    told = check_edit(bench.code, edit)
                    bench.do_edit(edit)
                    self.assertEqual(state(bench), (*pair, (*states[-1][2], told), ()))
            while states:
                bench.take_back()
                self.assertEqual(state(bench), states.pop())
            self.assertEqual(state(bench), (code, prices, (), ()))

    def test_log_and_watched_stay(self):
        bench = Bench(FIVE, PRICES)
        bench.set_price(0, 1)
        bench.watch_row(HALF_ROW)
        log, watched = bench.log, bench.watched
        bench.set_price(1, 1)
        bench.watch_row(ZEROS)
        self.assertEqual((log, watched), ((("price", 0, 1),), (HALF_ROW,)))
        bench.take_back()
        bench.take_back()
        self.assertEqual(log, (("price", 0, 1),))
        self.assertEqual((bench.log, bench.watched), ((), (HALF_ROW, ZEROS)))

    def test_from_edits(self):
        random = Random(1022)
        for many in (0, 1, 12, 40):
            code = some_code(random, 6, 5)
            prices = some_prices(random, code)
            pair = (code, prices)
            edits = []
            log = []
            for _ in range(many):
                edits.append(some_edit(random, pair[0]))
                log.append(check_edit(pair[0], edits[-1]))
                pair = edited_pair(*pair, edits[-1])
            bench = Bench.from_edits(code, list(prices), edits)
            self.assertIs(type(bench), Bench)
            self.assertEqual(state(bench), (*pair, tuple(log), ()))
            for edit in log[::-1]:
                self.assertEqual(bench.take_back(), edit)
            self.assertEqual(state(bench), (code, prices, (), ()))
            self.fails(NothingDone, [], bench.take_back)

    def test_from_wrong_edits(self):
        for edits, place in ((None, -1), ("drop", -1), ([("drop", 0)] * 41, -1), ([None], 0), ([("drop", 0)] * 5, 4),
                             ([("drop", 0), ("price", 5, 0), None], 1)):
            self.fails(BadEdit, [place], Bench.from_edits, FIVE, PRICES, edits)
        bench = Bench(FIVE, PRICES)
        self.assertEqual(bench.from_edits(FIVE, PRICES, [("drop", 0)]).log, (("drop", 0),))
        self.assertEqual(bench.log, ())

    def test_more_than_forty_by_hand(self):
        bench = Bench(FIVE, PRICES)
        for number in range(50):
            bench.set_price(0, number)
        self.assertEqual(len(bench.log), 50)


class Watching(Raises, unittest.TestCase):
    def test_verdict_price_and_wishes(self):
        bench = Bench(FIVE, PRICES)
        self.assertEqual((bench.verdict_now(), bench.price_now()), ("fooled", (-1, 1)))
        self.assertEqual(bench.fault_now([("right", (0,) * 5), ("right", PRICES)]), 1)
        bench.add_check([2])
        self.assertEqual((bench.verdict_now(), bench.price_now()), ("right", (0, 1)))
        self.assertIsNone(bench.fault_now([("right", (0,) * 5), ("right", PRICES)]))
        bench.take_back()
        self.assertEqual(bench.verdict_now(), "fooled")

    def test_chance(self):
        random = Random(1023)
        for _ in range(30):
            code = some_code(random, 6, 5)
            bench = Bench(code, some_prices(random, code))
            rows = [some_row(random, code.bits, (1, 2)) for _ in range(4)]
            self.assertEqual([bench.watch_row(list(row)) for row in rows], [0, 1, 2, 3])
            for _ in range(6):
                bench.do_edit(some_edit(random, bench.code))
                before = state(bench)
                self.assertEqual(bench.verdict_now(), verdict_at(bench.code, bench.prices))
                self.assertEqual(bench.price_now(), cheapest_let(bench.code, bench.prices).price)
                self.assertEqual(bench.let_now(), tuple(number for number, row in enumerate(rows)
                                                        if is_let(bench.code, row)))
                wishes = [("right", bench.prices), ("flips", 1), ("barred", rows[0])]
                self.assertEqual(bench.fault_now(wishes), wish_fault(bench.code, wishes))
                self.assertEqual(state(bench), before)

    def test_wrong_wishes(self):
        bench = Bench(FIVE, PRICES)
        for wishes, number in ((None, -1), ([("flips", 1)] * 7, -1), ([None], 0), ([("flips", 0), ("flips", True)], 1)):
            self.fails(BadWish, [number], bench.fault_now, wishes)

    def test_watched_rows(self):
        bench = Bench(FIVE, PRICES)
        self.assertEqual((bench.watched, bench.let_now()), ((), ()))
        row = list(HALF_ROW)
        self.assertEqual(bench.watch_row(row), 0)
        row[0] = (0, 1)
        self.assertEqual(bench.watch_row(ratios(1, 0, 0, 0, 0)), 1)
        self.assertEqual(bench.watch_row(HALF_ROW), 2)
        self.assertEqual(bench.watched, (HALF_ROW, ratios(1, 0, 0, 0, 0), HALF_ROW))
        self.assertEqual({type(bench.watched)} | {type(row) for row in bench.watched}, {tuple})
        self.assertEqual(bench.let_now(), (0, 2))
        bench.add_check([2])
        self.assertEqual(bench.let_now(), ())
        bench.take_back()
        self.assertEqual(bench.let_now(), (0, 2))
        self.fails(NothingDone, [], bench.take_back)
        self.assertEqual(len(bench.watched), 3)
        self.assertEqual(bench.log, ())

    def test_wrong_rows(self):
        bench = Bench(FIVE, PRICES)
        for row, place in ((None, -1), ((), -1), (HALF_ROW[:4], -1), (HALF_ROW[:4] + (1,), 4),
                           (((3, 2),) + HALF_ROW[1:], 0), ([[1, 2]] * 5, 0)):
            self.fails(BadRow, [place], bench.watch_row, row)
        self.assertEqual(bench.watched, ())


class Trying(Raises, unittest.TestCase):
    def test_what_would_be_behind_the_edits(self):
        bench = Bench(FIVE, PRICES)
        for row in (HALF_ROW, ZEROS, LAST):
            bench.watch_row(row)
        before = state(bench)
        for edits, told in (((), ("fooled", (0, 1, 2))), ([["add", 4, [2]]], ("right", (1, 2))),
                            ([("add", 0, (3,))], ("right", (1,))), ([("price", 2, 1)], ("right", (0, 1, 2))),
                            ((("add", 4, (2,)), ("drop", 4)), ("fooled", (0, 1, 2)))):
            tried = bench.tried_edits(edits)
            self.assertEqual(tried, told)
            self.assertEqual((type(tried), type(tried[1])), (tuple, tuple))
            self.assertEqual(state(bench), before)
        self.assertIs(bench.code, FIVE)

    def test_chance(self):
        random = Random(1024)
        for _ in range(30):
            code = some_code(random, 6, 5)
            bench = Bench(code, some_prices(random, code))
            rows = [some_row(random, code.bits, (1, 2)) for _ in range(3)]
            for row in rows:
                bench.watch_row(row)
            bench.do_edit(some_edit(random, bench.code))
            before = state(bench)
            edits = []
            pair = before[:2]
            for _ in range(random.choice((0, 3, 40))):
                edits.append(some_edit(random, pair[0]))
                pair = edited_all(*pair, edits[-1:])
            told = tuple(number for number, row in enumerate(rows) if is_let(pair[0], row))
            self.assertEqual(bench.tried_edits(edits), (verdict_at(*pair), told))
            self.assertEqual(state(bench), before)
            bench.take_back()
            self.fails(NothingDone, [], bench.take_back)

    def test_wrong_edits_leave_all_as_it_is(self):
        bench = Bench.from_edits(FIVE, PRICES, [("price", 0, 4)])
        bench.watch_row(HALF_ROW)
        before = state(bench)
        for edits, place in ((None, -1), ([("drop", 0)] * 41, -1), ([("drop", 0)] * 5, 4), ([None], 0),
                             ([("add", 0, (2,)), ("price", 0, 9), ("drop", 5)], 2)):
            self.fails(BadEdit, [place], bench.tried_edits, edits)
            self.assertEqual(state(bench), before)

    def test_two_benches(self):
        one = Bench(FIVE, PRICES)
        other = Bench(FIVE, PRICES)
        one.add_check([2])
        one.set_price(0, 5)
        one.watch_row(HALF_ROW)
        self.assertEqual(state(other), (FIVE, PRICES, (), ()))
        other.drop_check(0)
        other.watch_row(ZEROS)
        self.assertEqual(state(one), (Code(5, FIVE.checks + ((2,),)), (5, 0, -1, 0, 0),
                                      (("add", 4, (2,)), ("price", 0, 5)), (HALF_ROW,)))
        one.take_back()
        one.take_back()
        self.assertEqual(one.code, FIVE)
        self.assertEqual(state(other), (Code(5, FIVE.checks[1:]), PRICES, (("drop", 0),), (ZEROS,)))

    def test_no_equality(self):
        self.assertFalse(Bench(FIVE, PRICES) == Bench(FIVE, PRICES))


if __name__ == "__main__":
    unittest.main()
