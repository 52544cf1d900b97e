"""Tests of letbychecks.edits: [10.6], [10.7]."""

import unittest
from itertools import product
from random import Random

from letbychecks.codes import Code
from letbychecks.edits import check_edit, edited_all, edited_pair, edits_between, undo_edit
from letbychecks.errors import BadEdit, BadPrices, UnlikeBits
from tests.helpers import FIVE, ODD_THINGS, WRONG_PRICES, Raises, lots_of, some_code, some_prices

PRICES = (0, 0, -1, 0, 0)
FULL = Code(2, [(0, 1)] * 63)
WRONG_EDITS = ODD_THINGS + (
    5, "drop", ("drop",), ("drop", 4), ("drop", -1), ("drop", True), ("drop", None), ("drop", 0, 0), ("drop", 1.0),
    ("drop", (0,)), ("add",), ("add", 0), ("add", 5, (0,)), ("add", -1, (0,)), ("add", True, (0,)), ("add", None, (0,)),
    ("add", 0, ()), ("add", 0, []), ("add", 0, (5,)), ("add", 0, (0, 0)), ("add", 0, (True,)), ("add", 0, None),
    ("add", 0, 0), ("add", 0, "0"), ("add", 0, [[0]]), ("add", 0, {0}), ("add", 0, (0,), 1), ("add", (0,), 0),
    ("price",), ("price", 0), ("price", 5, 0), ("price", -1, 0), ("price", True, 0), ("price", 0, 100),
    ("price", 0, -100), ("price", 0, True), ("price", 0, None), ("price", 0, 1.0), ("price", 0, 0, 0),
    ("price", None, 0), ("Drop", 0), ("", 0), ("set", 0, 0), (None, 0), (0, 0), (True, 0, 0), (b"drop", 0),
    (("drop",), 0), (["drop"], 0), ({"drop"}, 0), {"drop": 0}, {"drop", 0}, ("drop", 0, None))


def behind_by_hand(code, prices, edit):
    """The checks and the prices behind an edit, as lists."""
    checks = list(code.checks)
    prices = list(prices)
    if edit[0] == "add":
        checks = checks[:edit[1]] + [tuple(sorted(edit[2]))] + checks[edit[1]:]
    elif edit[0] == "drop":
        del checks[edit[1]]
    else:
        prices[edit[1]] = edit[2]
    return checks, prices


def some_edit(random, code):
    """An edit by chance, as a tuple or a list."""
    word = random.choice(("add", "drop", "price") if len(code) else ("add", "price"))
    if word == "add":
        lot = random.sample(range(code.bits), random.randint(1, code.bits))
        edit = (word, random.randint(0, len(code)), lot)
    elif word == "drop":
        edit = (word, random.randrange(len(code)))
    else:
        edit = (word, random.randrange(code.bits), random.randint(-99, 99))
    return edit if random.random() < 0.5 else list(edit)


def told(edit):
    """The edit as check_edit returns it."""
    return tuple(tuple(sorted(thing)) if isinstance(thing, (list, tuple)) else thing for thing in edit)


def most_kept(checks, others):
    """The most checks that can be kept in their order, by trying all choices of the first ones."""
    best = 0
    for chosen in product((0, 1), repeat=len(checks)):
        kept = [check for check, one in zip(checks, chosen) if one]
        rest = iter(others)
        if all(check in rest for check in kept):
            best = max(best, len(kept))
    return best


class CheckEdit(Raises, unittest.TestCase):
    def test_each_kind_at_the_first_and_the_last_number(self):
        for number in (0, 4):
            self.assertEqual(check_edit(FIVE, ["add", number, [4, 0]]), ("add", number, (0, 4)))
            self.assertEqual(check_edit(FIVE, ("add", number, (2,))), ("add", number, (2,)))
            for price in (-99, 0, 99):
                self.assertEqual(check_edit(FIVE, ["price", number, price]), ("price", number, price))
        for number in (0, 3):
            self.assertEqual(check_edit(FIVE, ["drop", number]), ("drop", number))
        edit = check_edit(FIVE, ["add", 0, [1]])
        self.assertEqual((type(edit), type(edit[2])), (tuple, tuple))

    def test_wrong_ones(self):
        for edit in WRONG_EDITS:
            self.fails(BadEdit, [0], check_edit, FIVE, edit)
            self.fails(BadEdit, [0], edited_pair, FIVE, PRICES, edit)
            self.fails(BadEdit, [0], undo_edit, FIVE, PRICES, edit)
            self.fails(BadEdit, [0], edited_all, FIVE, PRICES, [edit])
            self.fails(BadEdit, [1], edited_all, FIVE, PRICES, (("price", 0, 1), edit, None))

    def test_no_checks_and_63(self):
        self.fails(BadEdit, [0], check_edit, Code(2, []), ("drop", 0))
        self.assertEqual(check_edit(Code(2, []), ("add", 0, (1,))), ("add", 0, (1,)))
        self.fails(BadEdit, [0], check_edit, Code(2, []), ("add", 1, (1,)))
        for number in (0, 63):
            self.fails(BadEdit, [0], check_edit, FULL, ("add", number, (1,)))
        self.assertEqual(check_edit(FULL, ("drop", 62)), ("drop", 62))
        less = Code(2, [(0, 1)] * 62)
        self.assertEqual(check_edit(less, ("add", 62, (1,))), ("add", 62, (1,)))
        self.assertEqual(len(edited_pair(less, (0, 0), ("add", 62, (1,)))[0]), 63)


class EditedPair(Raises, unittest.TestCase):
    def test_chance(self):
        random = Random(1011)
        for _ in range(200):
            code = some_code(random, 6, 5)
            prices = some_prices(random, code, 99)
            edit = some_edit(random, code)
            checks, after = behind_by_hand(code, prices, edit)
            pair = edited_pair(code, list(prices), edit)
            self.assertEqual((type(pair), type(pair[0]), type(pair[1])), (tuple, Code, tuple))
            self.assertEqual(pair, (Code(code.bits, checks), tuple(after)))

    def test_nothing_that_is_passed_is_changed(self):
        prices = list(PRICES)
        lot = [4, 1]
        code, _ = edited_pair(FIVE, prices, ["add", 1, lot])
        edited_pair(FIVE, prices, ["price", 1, 5])
        edited_pair(FIVE, prices, ("drop", 0))
        self.assertEqual((prices, lot), (list(PRICES), [4, 1]))
        self.assertEqual(FIVE, Code(5, ((0, 1), (0, 1, 2), (2, 3, 4), (3, 4))))
        self.assertEqual(code.checks[1], (1, 4))

    def test_plain_ones(self):
        self.assertEqual(edited_pair(FIVE, PRICES, ("add", 4, (2,))), (Code(5, FIVE.checks + ((2,),)), PRICES))
        self.assertEqual(edited_pair(FIVE, PRICES, ("add", 0, (2,))), (Code(5, ((2,),) + FIVE.checks), PRICES))
        self.assertEqual(edited_pair(FIVE, PRICES, ("drop", 1)), (Code(5, ((0, 1), (2, 3, 4), (3, 4))), PRICES))
        self.assertEqual(edited_pair(FIVE, PRICES, ("price", 2, -1)), (FIVE, PRICES))
        self.assertEqual(edited_pair(FIVE, PRICES, ("price", 4, -99)), (FIVE, (0, 0, -1, 0, -99)))

    def test_prices_come_first(self):
        for prices, place in WRONG_PRICES:
            self.fails(BadPrices, [place], edited_pair, FIVE, prices, None)
            self.fails(BadPrices, [place], edited_all, FIVE, prices, None)
            self.fails(BadPrices, [place], undo_edit, FIVE, prices, None)


class EditedAll(Raises, unittest.TestCase):
    def test_one_after_another(self):
        random = Random(1012)
        for many in (0, 1, 5, 40):
            for _ in range(20):
                code = some_code(random, 6, 5)
                prices = some_prices(random, code)
                pair = (code, prices)
                edits = []
                for _ in range(many):
                    edits.append(some_edit(random, pair[0]))
                    pair = edited_pair(*pair, edits[-1])
                self.assertEqual(edited_all(code, list(prices), edits), pair)
                self.assertEqual(edited_all(code, prices, tuple(edits)), pair)

    def test_how_many(self):
        self.assertEqual(edited_all(FIVE, list(PRICES), ()), (FIVE, PRICES))
        self.assertEqual(edited_all(FIVE, PRICES, [("price", 0, 1)] * 40), (FIVE, (1, 0, -1, 0, 0)))
        for edits in (None, [("price", 0, 1)] * 41, [None] * 41, "drop", 3, True, {}, {("drop", 0)}):
            self.fails(BadEdit, [-1], edited_all, FIVE, PRICES, edits)

    def test_the_first_wrong_one_for_the_code_as_it_then_is(self):
        self.fails(BadEdit, [4], edited_all, FIVE, PRICES, [("drop", 0)] * 5)
        self.assertEqual(edited_all(FIVE, PRICES, [("drop", 0)] * 4), (Code(5, []), PRICES))
        self.fails(BadEdit, [2], edited_all, FIVE, PRICES, [("drop", 3), ("add", 3, (2,)), ("drop", 4), ("add", 9, 1)])
        self.assertEqual(len(edited_all(FIVE, PRICES, [("add", 4, [2]), ("drop", 4)])[0]), 4)
        self.fails(BadEdit, [1], edited_all, Code(2, [(0, 1)] * 62), (0, 0), [("add", 0, (1,)), ("add", 0, (1,))])
        self.fails(BadEdit, [20], edited_all, FIVE, PRICES, [("price", 0, 1)] * 20 + [("price", 0, 100)] * 20)


class UndoEdit(Raises, unittest.TestCase):
    def test_done_behind_the_edit_it_gives_back_what_was(self):
        random = Random(1013)
        kinds = set()
        for _ in range(200):
            code = some_code(random, 6, 5)
            prices = some_prices(random, code, 99)
            edit = some_edit(random, code)
            back = undo_edit(code, list(prices), edit)
            kinds.add((edit[0], back[0]))
            self.assertEqual(edited_pair(*edited_pair(code, prices, edit), back), (code, prices))
            self.assertEqual(check_edit(edited_pair(code, prices, edit)[0], back), back)
            self.assertIs(type(back), tuple)
        self.assertEqual(kinds, {("add", "drop"), ("drop", "add"), ("price", "price")})

    def test_plain_ones(self):
        self.assertEqual(undo_edit(FIVE, PRICES, ["add", 4, [2]]), ("drop", 4))
        self.assertEqual(undo_edit(FIVE, PRICES, ["drop", 1]), ("add", 1, (0, 1, 2)))
        self.assertEqual(undo_edit(FIVE, PRICES, ["price", 2, 7]), ("price", 2, -1))
        self.assertEqual(undo_edit(FULL, (0, 5), ("drop", 62)), ("add", 62, (0, 1)))


class EditsBetween(Raises, unittest.TestCase):
    def judged(self, code, prices, other, goals, kept):
        """The edits lead there, each an edit of the code as it then is, and are as few as told."""
        edits = edits_between(code, list(prices), other, goals)
        self.assertIs(type(edits), tuple)
        pair = (code, tuple(prices))
        for edit in edits:
            self.assertEqual(check_edit(pair[0], edit), edit)
            pair = edited_pair(*pair, edit)
        self.assertEqual(pair, (other, tuple(goals)))
        unlike = sum(one != goal for one, goal in zip(prices, goals))
        self.assertEqual(len(edits), len(code) + len(other) - 2 * kept + unlike)

    def test_chance(self):
        random = Random(1014)
        for _ in range(250):
            bits = random.randint(1, 5)
            lots = random.sample(lots_of(range(bits))[1:], min(3, (1 << bits) - 1))
            one, other = [Code(bits, [random.choice(lots) for _ in range(random.randint(0, 7))]) for _ in range(2)]
            prices, goals = [some_prices(random, one, 1) for _ in range(2)]
            self.judged(one, prices, other, goals, most_kept(one.checks, other.checks))

    def test_plain_ones(self):
        empty = Code(5, [])
        self.assertEqual(edits_between(FIVE, PRICES, FIVE, list(PRICES)), ())
        self.judged(FIVE, PRICES, empty, PRICES, 0)
        self.judged(empty, PRICES, FIVE, (1, 1, 1, 1, 1), 0)
        self.judged(empty, PRICES, empty, (99, 0, -99, 0, 0), 0)
        self.judged(FIVE, PRICES, Code(5, FIVE.checks[::-1]), PRICES, 1)
        self.judged(FIVE, PRICES, Code(5, FIVE.checks[1:] + FIVE.checks[:1]), PRICES, 3)
        self.assertEqual(edits_between(FIVE, PRICES, FIVE, (0, 0, -1, 0, 9)), (("price", 4, 9),))

    def test_alike_checks_are_paired_one_by_one(self):
        two = Code(2, [(0, 1)] * 2)
        self.judged(FULL, (0, 0), two, (0, 0), 2)
        self.judged(two, (0, 0), FULL, (1, 0), 2)
        self.judged(Code(2, [(0, 1), (0,), (0, 1)]), (0, 0), Code(2, [(0,), (0, 1), (0, 1), (0,)]), (0, 0), 2)

    def test_codes_of_63_checks(self):
        random = Random(1015)
        other = Code(2, [random.choice(((0,), (1,), (0, 1))) for _ in range(63)])
        self.judged(FULL, (0, 0), other, (1, 1), other.checks.count((0, 1)))
        self.judged(Code(2, [(0,)] * 63), (0, 0), Code(2, [(1,)] * 63), (5, 5), 0)

    def test_errors_in_turn(self):
        wide = Code(6, [])
        for prices, place in WRONG_PRICES:
            self.fails(BadPrices, [place], edits_between, FIVE, prices, wide, None)
            self.fails(BadPrices, [place], edits_between, FIVE, PRICES, Code(5, []), prices)
        self.fails(UnlikeBits, [], edits_between, FIVE, PRICES, wide, None)
        self.fails(UnlikeBits, [], edits_between, FIVE, PRICES, wide, (0,) * 6)


if __name__ == "__main__":
    unittest.main()
