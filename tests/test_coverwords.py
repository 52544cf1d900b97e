"""Tests of letbychecks.coverwords: [3.5], [3.6], [3.7]."""

import unittest
from fractions import Fraction
from itertools import islice, product
from random import Random

from letbychecks.codes import Code
from letbychecks.covers import Cover, cover_code, joined_covers, plain_cover
from letbychecks.coverwords import average_row, check_marks, cover_words, coverword_fault, is_cover_word
from letbychecks.coverwords import same_on_all, seen_rows
from letbychecks.errors import BadMarks, NoCheck, TooMany
from letbychecks.letrows import is_let
from letbychecks.mixtures import mixture_fault
from tests.helpers import FIVE, Raises, ratio, ratios, some_codes, some_cover, words_by_hand

PAIR = Code(3, [(0, 2), (1,)])
COVER = Cover(PAIR, 2, [[(0, 1), (1, 0)], [(1, 0)]])
WORD = ((0, 1), (0, 0), (1, 0))
WRONG_MARKS = ((None, -1), (5, -1), ((), -1), (WORD[:2], -1), (WORD + WORD, -1), ("abc", -1), ({}, -1),
               (((0, 1), None, (1,)), 1), (((0,), (0, 0), (1, 0)), 0), (((0, 1), (0, 0), (1, 0, 0)), 2),
               (((0, True), (0, 0), (1, 0)), 0), (((0, 1), (2, 0), (1, 0)), 1), (((0, 1), (0, 0), (1, -1)), 2),
               (((0, 1), (0, 0.0), (1, 0)), 1), (((0, 1), "00", (1, 0)), 1), (((0, 1), (0, 0), (False, 0)), 2),
               (((0, 1), 0, 1), 1), (((0, 1), {0, 1}, 1), 1))


def marks_by_hand(cover):
    """All marks, ascending."""
    return list(product(product((0, 1), repeat=cover.sheets), repeat=cover.code.bits))


def seen_by_hand(cover, marks, number, copy):
    """What the copy of the check sees."""
    return tuple(marks[bit][wire[copy]] for bit, wire in zip(cover.code.checks[number], cover.wires[number]))


def fault_by_hand(cover, marks):
    """The first couple that is not even."""
    for number in range(len(cover.code)):
        for copy in range(cover.sheets):
            if sum(seen_by_hand(cover, marks, number, copy)) % 2:
                return (number, copy)
    return None


class Marks(Raises, unittest.TestCase):
    def test_marks(self):
        told = check_marks(COVER, [[0, 1], (0, 0), [1, 0]])
        self.assertEqual(told, WORD)
        self.assertEqual({type(told), type(told[0]), type(told[2])}, {tuple})

    def test_wrong_marks(self):
        for marks, place in WRONG_MARKS:
            for call in (check_marks, coverword_fault, is_cover_word, average_row):
                self.fails(BadMarks, [place], call, COVER, marks)
            self.fails(BadMarks, [place], seen_rows, COVER, marks, None)

    def test_faults(self):
        random = Random(71)
        for code in some_codes(72, 40, 4, 3):
            cover = some_cover(random, code, random.randint(1, 2))
            for marks in marks_by_hand(cover):
                fault = fault_by_hand(cover, marks)
                self.assertEqual(coverword_fault(cover, [list(copies) for copies in marks]), fault)
                self.assertIs(is_cover_word(cover, marks), fault is None)

    def test_first_couple(self):
        cover = plain_cover(FIVE, 3)
        none = [[0] * 3 for _ in range(5)]
        self.assertIsNone(coverword_fault(cover, none))
        for number, bits in ((0, (0,)), (1, (0, 1, 2)), (2, (3,)), (2, (2, 0, 1, 2, 3))):
            marks = [list(copies) for copies in none]
            for bit in bits:
                marks[bit][2] ^= 1
            self.assertEqual(coverword_fault(cover, marks)[1], 2)
            self.assertEqual(coverword_fault(cover, marks), fault_by_hand(cover, marks))
            marks[4] = [0, 1, 1]
            self.assertEqual(coverword_fault(cover, marks), fault_by_hand(cover, marks))

    def test_same_on_all(self):
        self.assertEqual(same_on_all(COVER, [1, 0, 1]), ((1, 1), (0, 0), (1, 1)))
        self.assertEqual(same_on_all(plain_cover(PAIR, 1), (0, 1, 0)), ((0,), (1,), (0,)))
        for word in (None, 5, "000", (), (0, 0), (0,) * 4, {}):
            self.fails(BadMarks, [-1], same_on_all, COVER, word)
        for digit in (True, False, 2, -1, None, "0", 0.0, (0,)):
            self.fails(BadMarks, [0], same_on_all, COVER, (digit, 0, digit))
            self.fails(BadMarks, [1], same_on_all, COVER, (0, digit, digit))

    def test_same_on_all_is_a_cover_word_for_words(self):
        random = Random(73)
        for code in some_codes(74, 20, 4, 3):
            cover = some_cover(random, code, 3)
            words = words_by_hand(code)
            for word in product((0, 1), repeat=code.bits):
                self.assertIs(is_cover_word(cover, same_on_all(cover, word)), word in words)


class CoverWords(Raises, unittest.TestCase):
    def test_all(self):
        random = Random(75)
        for code in some_codes(76, 40, 4, 3):
            cover = some_cover(random, code, random.randint(1, 10 // code.bits if code.bits > 2 else 4))
            told = list(cover_words(cover))
            self.assertEqual(told, [marks for marks in marks_by_hand(cover) if fault_by_hand(cover, marks) is None])
            flat = [tuple(digit for copies in marks for digit in copies) for marks in told]
            self.assertEqual(flat, words_by_hand(cover_code(cover)))

    def test_kinds(self):
        marks = list(cover_words(COVER))
        self.assertEqual(marks, [((0, 0), (0, 0), (0, 0)), ((0, 1), (0, 0), (1, 0)), ((1, 0), (0, 0), (0, 1)),
                                 ((1, 1), (0, 0), (1, 1))])
        self.assertEqual({type(copies) for mark in marks for copies in mark} | {type(mark) for mark in marks}, {tuple})

    def test_begun_twice(self):
        first = cover_words(COVER)
        self.assertEqual(next(first), next(cover_words(COVER)))
        self.assertEqual(len(list(first)), 3)

    def test_too_many_copies(self):
        self.assertEqual(list(cover_words(plain_cover(Code(1, [(0,)]), 60))), [((0,) * 60,)])
        self.fails(TooMany, [60], lambda: list(cover_words(plain_cover(Code(1, [(0,)]), 61))))
        self.fails(TooMany, [60], lambda: list(cover_words(plain_cover(Code(7, []), 9))))
        self.assertEqual(len(list(cover_words(plain_cover(Code(10, [(bit,) for bit in range(10)]), 6)))), 1)

    def test_too_many_words(self):
        self.assertEqual(len(list(cover_words(plain_cover(Code(2, []), 6)))), 4096)
        self.fails(TooMany, [4096], lambda: list(cover_words(plain_cover(Code(1, []), 13))))
        self.fails(TooMany, [4096], lambda: list(cover_words(plain_cover(Code(6, []), 10))))
        self.assertEqual(len(list(cover_words(plain_cover(Code(5, [(0, 1, 2, 3, 4), (0, 1), (2, 3)]), 6)))), 4096)

    def test_great(self):
        code = Code(5, [(0, 1), (1, 2), (2, 3), (3, 4)] * 15)
        words = list(cover_words(plain_cover(code, 12)))
        self.assertEqual(len(words), 4096)
        self.assertEqual(words, sorted(words))
        self.assertEqual(words[-1], ((1,) * 12,) * 5)


class Averages(Raises, unittest.TestCase):
    def test_averages(self):
        self.assertEqual(average_row(COVER, [[0, 1], [1, 1], [0, 0]]), ratios("1/2", 1, 0))
        self.assertEqual(average_row(plain_cover(PAIR, 4), ((0, 1, 0, 0), (1, 1, 1, 0), (1, 0, 1, 0))),
                         ratios("1/4", "3/4", "1/2"))

    def test_cover_words_average_to_let_rows(self):
        random = Random(77)
        for code in (FIVE, *some_codes(78, 30, 4, 4)):
            cover = joined_covers(some_cover(random, code, 1), some_cover(random, code, 1))
            for marks in islice(cover_words(cover), 300):
                row = average_row(cover, marks)
                self.assertIs(is_let(code, row), True)
                for number in range(len(code)):
                    self.assertIsNone(mixture_fault(code, number, row, seen_rows(cover, marks, number)))

    def test_seen(self):
        random = Random(79)
        for code in some_codes(80, 40, 5, 3):
            cover = some_cover(random, code, random.randint(1, 6))
            marks = [[random.randint(0, 1) for _ in range(cover.sheets)] for _ in range(code.bits)]
            for number in range(len(code)):
                seen = [seen_by_hand(cover, marks, number, copy) for copy in range(cover.sheets)]
                told = tuple((row, ratio(Fraction(seen.count(row), cover.sheets))) for row in sorted(set(seen)))
                self.assertEqual(seen_rows(cover, marks, number), told)

    def test_wrong_numbers(self):
        for number in (-1, 2, True, None, "0", 0.0):
            self.fails(NoCheck, [number], seen_rows, COVER, WORD, number)
            self.fails(BadMarks, [-1], seen_rows, COVER, None, number)


if __name__ == "__main__":
    unittest.main()
