"""Tests of letbychecks.pricetext: [1.10]."""

import unittest
from fractions import Fraction
from math import gcd
from random import Random

from letbychecks.errors import BadText
from letbychecks.pricetext import prices_text, read_prices, read_row, row_text
from tests.helpers import Raises, ratio, ratios, some_row
from tests.test_codetext import ARABIC_ONE, NO_STRINGS, SQUARED, WIDE_ZERO

GREAT = 10 ** 60 - 1
WRONG_SIGNS = (ARABIC_ONE, "1" + ARABIC_ONE, WIDE_ZERO, SQUARED, "", "-", "+", "a", "1a", "0x1", "1_0", "1e1", "1.0",
               "1\n", "\t1", "1,", "--1", "+1", "-+1", "- 1", "True", "None", "1\u00a0")


class Prices(Raises, unittest.TestCase):
    def test_there_and_back(self):
        for price in range(-99, 100):
            self.assertEqual(prices_text([price]), str(price))
            self.assertEqual(read_prices(str(price)), (price,))
        random = Random(194)
        for many in range(1, 11):
            prices = tuple(random.randint(-99, 99) for _ in range(many))
            self.assertEqual(prices_text(prices), " ".join(map(str, prices)))
            self.assertEqual(prices_text(list(prices)), prices_text(prices))
            self.assertEqual(read_prices(prices_text(prices)), prices)
        self.assertEqual(prices_text((0, 0, -1, 0, 99)), "0 0 -1 0 99")
        self.assertEqual([type(price) for price in read_prices("0 -5")], [int, int])

    def test_parts_that_do_not_fit(self):
        for part in WRONG_SIGNS + ("-0", "00", "007", "01", "-01", "-00", "100", "-100", "1000", "0" * 1000000,
                                   "9" * 1000000, "-" + "1" * 1000000, "1/2", "0/1", "1/1"):
            if " " not in part:
                self.fails(BadText, [0], read_prices, part)
                self.fails(BadText, [2], read_prices, "5 -5 " + part)
                self.fails(BadText, [1], read_prices, "5 " + part + " x")
        self.fails(BadText, [0], read_prices, " 5")
        self.fails(BadText, [1], read_prices, "5 ")
        self.fails(BadText, [1], read_prices, "5  6")
        self.fails(BadText, [0], read_prices, " ")
        self.fails(BadText, [0], read_prices, "")

    def test_how_many(self):
        self.assertEqual(read_prices(" ".join(["-1"] * 10)), (-1,) * 10)
        self.fails(BadText, [10], read_prices, " ".join(["-1"] * 11))
        self.fails(BadText, [10], read_prices, " ".join(["-1"] * 10) + " ")
        self.fails(BadText, [9], read_prices, " ".join(["-1"] * 9) + " x x")
        self.fails(BadText, [10], read_prices, " ".join(["-1"] * 300000))

    def test_no_string(self):
        for call in (read_prices, read_row):
            for text in NO_STRINGS:
                self.fails(BadText, [-1], call, text)


class Rows(Raises, unittest.TestCase):
    def test_there_and_back(self):
        random = Random(195)
        for _ in range(200):
            row = some_row(random, random.randint(1, 10), (1, 2, 3, 4, 6, 97, 10 ** 30, GREAT))
            text = " ".join(str(Fraction(*share)) for share in row)
            self.assertEqual(row_text(row), text)
            self.assertEqual(row_text(list(row)), text)
            self.assertEqual(read_row(text), row)
        self.assertEqual(row_text(ratios(0, 1, "1/2", "2/3")), "0 1 1/2 2/3")
        self.assertEqual(read_row("0 1 1/2 2/3"), ratios(0, 1, "1/2", "2/3"))
        self.assertEqual({type(share) for share in read_row("0 1/2")}, {tuple})

    def test_parts_that_do_not_fit(self):
        for part in WRONG_SIGNS + (
                "2/4", "0/2", "0/1", "1/1", "2/2", "3/2", "2", "00", "01", "-1", "-0", "-1/2", "1/-2", "1/0", "0/0",
                "1/", "/2", "/", "1//2", "1/2/3", "01/2", "1/02", "1/2.", "+1/2", "1/+2", "1/" + ARABIC_ONE,
                ARABIC_ONE + "/2", "1/" + SQUARED, "0" * 1000000, "1/" + "3" * 1000000, "1" * 1000000 + "/2", "10",
                "/" * 1000000):
            self.fails(BadText, [0], read_row, part)
            self.fails(BadText, [2], read_row, "0 1/3 " + part)
            self.fails(BadText, [1], read_row, "1/3 " + part + " x")
        self.fails(BadText, [1], read_row, "1 / 2")
        self.fails(BadText, [0], read_row, "1/ 2")
        self.fails(BadText, [0], read_row, " 1/2")
        self.fails(BadText, [1], read_row, "1/2 ")
        self.fails(BadText, [1], read_row, "1/2  1/2")
        self.fails(BadText, [0], read_row, "")

    def test_digits_of_fractions(self):
        for top, bottom in ((1, GREAT), (GREAT - 1, GREAT), (10 ** 59, GREAT), (1, 10 ** 59)):
            self.assertEqual(gcd(top, bottom), 1)
            self.assertEqual(row_text([(top, bottom)]), f"{top}/{bottom}")
            self.assertEqual(read_row(f"{top}/{bottom}"), ((top, bottom),))
        self.fails(BadText, [0], read_row, f"1/{10 ** 60}")
        self.fails(BadText, [0], read_row, f"{10 ** 60}/{10 ** 60 + 1}")
        self.fails(BadText, [1], read_row, f"0 {10 ** 60 - 1}/{10 ** 60}")
        self.fails(BadText, [0], read_row, "1/0" + "3" * 59)
        self.fails(BadText, [0], read_row, "0" * 30 + "1/2")

    def test_how_many(self):
        self.assertEqual(read_row(" ".join(["1/2"] * 10)), ((1, 2),) * 10)
        self.fails(BadText, [10], read_row, " ".join(["1/2"] * 11))
        self.fails(BadText, [9], read_row, " ".join(["1/2"] * 9) + " 2/4 x")
        self.fails(BadText, [10], read_row, " ".join(["0"] * 300000))

    def test_what_is_read_is_written_just_so(self):
        random = Random(196)
        told = {True: 0, False: 0}
        for _ in range(3000):
            text = "".join(random.choice("00111223-/ ") for _ in range(random.randint(1, 5)))
            for read, write in ((read_prices, prices_text), (read_row, row_text)):
                try:
                    things = read(text)
                except BadText as error:
                    told[False] += 1
                    self.assertIn(error.place, range(len(text.split(" "))))
                else:
                    told[True] += 1
                    self.assertEqual(write(things), text)
        self.assertGreater(min(told.values()), 500)

    def test_all_short_shares(self):
        texts = {str(Fraction(top, bottom)): ratio(Fraction(top, bottom))
                 for bottom in range(1, 100) for top in range(bottom + 1)}
        for top in range(0, 100):
            for bottom in range(0, 100):
                text = f"{top}/{bottom}"
                if text in texts:
                    self.assertEqual(read_row(text), (texts[text],))
                else:
                    self.fails(BadText, [0], read_row, text)


if __name__ == "__main__":
    unittest.main()
