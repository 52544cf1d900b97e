"""Tests of letbychecks.codetext: [1.9]."""

import unittest
from random import Random

from letbychecks.codes import Code
from letbychecks.codetext import code_text, lot_text, read_code, read_lot, read_word, word_text
from letbychecks.errors import BadText
from tests.helpers import FIVE, Raises, lots_of, some_code, some_codes

NO_STRINGS = (None, 5, True, b"1:", ["1:"], ("0",), {"0": 1}, 1.0, object())
# The digits 1 and 0 in other scripts, which int and isdigit take.
ARABIC_ONE = "\u0661"
WIDE_ZERO = "\uff10"
SQUARED = "\u00b2"


def code_text_by_hand(code):
    """The text as the point tells it."""
    return f"{code.bits}:" + "".join(" " + "".join(map(str, check)) for check in code.checks)


class Codes(Raises, unittest.TestCase):
    def test_there_and_back(self):
        for code in some_codes(191, 60, 10, 9) + [FIVE, Code(1, []), Code(10, []), Code(1, [(0,)] * 63),
                                                  Code(10, [tuple(range(10))] * 63), Code(10, lots_of(range(10))[1:64])]:
            text = code_text(code)
            self.assertEqual(text, code_text_by_hand(code))
            self.assertIs(type(text), str)
            self.assertEqual(read_code(text), code)
            self.assertIs(type(read_code(text)), Code)

    def test_example(self):
        self.assertEqual(code_text(FIVE), "5: 01 012 234 34")
        self.assertEqual(read_code("5: 01 012 234 34"), FIVE)
        self.assertEqual(code_text(Code(10, [])), "10:")
        self.assertEqual(read_code("10:"), Code(10, []))
        self.assertEqual(read_code("10: 9 0123456789"), Code(10, [(9,), tuple(range(10))]))

    def test_no_string(self):
        for call in (read_code, read_lot, read_word):
            for text in NO_STRINGS:
                self.fails(BadText, [-1], call, text)

    def test_first_part(self):
        for text in ("", " ", "5", ":", "0:", "11:", "05:", "-1:", "+5:", "5: ", "5.0:", "5;", "100:", "5::", "5:01",
                     "x:", "5 :", ARABIC_ONE + ":", "1" + WIDE_ZERO + ":", "\t5:", "5:\n", "True:", "1" * 100000 + ":",
                     " 5:", "5:\u00a0", "01 5:", "1:1"):
            place = 1 if text == "5: " else 0
            self.fails(BadText, [place], read_code, text)

    def test_first_part_that_does_not_fit(self):
        for part in ("", "-", "10", "00", "0120", "5", "015", "9", "a", "0a", "0,1", "-1", "+1", "01\n", "\t", "01:",
                     ARABIC_ONE, "0" + ARABIC_ONE, WIDE_ZERO, SQUARED, "0" * 100000, "01" * 100000):
            self.fails(BadText, [1], read_code, "5: " + part)
            self.fails(BadText, [3], read_code, "5: 01 234 " + part + " 34")
            self.fails(BadText, [3], read_code, "5: 01 234 " + part + " 10")
        self.fails(BadText, [2], read_code, "5: 01  234")
        self.fails(BadText, [2], read_code, "5: 01 ")
        self.fails(BadText, [0], read_code, " 5: 01")
        self.fails(BadText, [1], read_code, "5:  01")
        self.fails(BadText, [1], read_code, "1: 1")
        self.assertEqual(read_code("2: 1"), Code(2, [(1,)]))

    def test_how_many_checks(self):
        self.assertEqual(read_code("2:" + " 01" * 63), Code(2, [(0, 1)] * 63))
        self.fails(BadText, [64], read_code, "2:" + " 01" * 64)
        self.fails(BadText, [64], read_code, "2:" + " 01" * 63 + " ")
        self.fails(BadText, [64], read_code, "2:" + " 01" * 300000)
        self.fails(BadText, [63], read_code, "2:" + " 01" * 62 + " 2 01")
        self.fails(BadText, [0], read_code, "2" + " 01" * 300000)

    def test_what_is_read_is_written_just_so(self):
        random = Random(192)
        told = {True: 0, False: 0}
        for _ in range(3000):
            text = list(code_text(some_code(random, 5, 3)))
            for _ in range(random.randint(0, 2)):
                place = random.randrange(len(text) + 1)
                text[place:place + random.randint(0, 1)] = random.choice(["", " ", "0", "1", "4", ":", "-"])
            text = "".join(text)
            try:
                code = read_code(text)
            except BadText as error:
                told[False] += 1
                self.assertIn(error.place, range(len(text.split(" "))))
            else:
                told[True] += 1
                self.assertEqual(code_text(code), text)
        self.assertGreater(min(told.values()), 300)


class Lots(Raises, unittest.TestCase):
    def test_there_and_back(self):
        for lot in lots_of(range(10)):
            self.assertEqual(lot_text(lot), "".join(map(str, lot)) or "-")
            self.assertEqual(lot_text(list(lot)), lot_text(lot))
            self.assertEqual(read_lot(lot_text(lot)), lot)
        self.assertEqual((lot_text(()), read_lot("-"), read_lot("09")), ("-", (), (0, 9)))

    def test_wrong_ones(self):
        for text in ("", " ", "--", "-0", "0-", "00", "10", "0 1", " 01", "01 ", "01\n", "a", "0a", ARABIC_ONE,
                     "0" + ARABIC_ONE, WIDE_ZERO, SQUARED, "01234567899", "0" * 1000000, "- ", " -", "-1", "+1", "1:"):
            self.fails(BadText, [0], read_lot, text)


class Words(Raises, unittest.TestCase):
    def test_there_and_back(self):
        random = Random(193)
        for bits in range(1, 11):
            for _ in range(10):
                word = tuple(random.randint(0, 1) for _ in range(bits))
                self.assertEqual(word_text(word), "".join(map(str, word)))
                self.assertEqual(word_text(list(word)), word_text(word))
                self.assertEqual(read_word(word_text(word)), word)
        self.assertEqual(read_word("01"), (0, 1))
        self.assertEqual([type(digit) for digit in read_word("01")], [int, int])

    def test_wrong_ones(self):
        for text in ("", " ", "-", "2", "012", "0 1", " 01", "01 ", "01\n", "a", "-1", "+1", "0" * 11, "01" * 1000000,
                     ARABIC_ONE, "0" + ARABIC_ONE, WIDE_ZERO, SQUARED, "0x1", "0,1"):
            self.fails(BadText, [0], read_word, text)
        self.assertEqual(read_word("1" * 10), (1,) * 10)


if __name__ == "__main__":
    unittest.main()
