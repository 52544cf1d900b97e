"""Tests of the interface at the end of the document: names, arguments, and where they are defined."""

import importlib
import inspect
import unittest

FUNCTIONS = {
    "ratios": """is_whole(thing, low=None, high=None) is_sequence(thing) is_ratio(thing) is_share(thing)
        common_divisor(one, other) make_ratio(top, bottom=1) ratio_plus(one, other) ratio_minus(one, other)
        ratio_times(one, other) ratio_over(one, other) ratio_sum(ratios) ratio_compare(one, other)""",
    "codes": """check_bit(code, bit) check_number(code, number) check_lot(code, lot) check_prices(code, prices)
        check_row(code, row) check_word(code, word)""",
    "words": """words_of(code) word_basis(code) count_words(code) is_word(code, word) word_fault(code, word)
        word_lot(word) lot_word(code, lot) word_of_row(row) row_of_word(word) cost_of(prices, row)
        word_cost(prices, word) sum_checks(code) is_sum_check(code, lot) sum_of_checks(code, numbers) with_sums(code)
        alike_codes(one, other) renamed_code(code, order) renamed_things(things, order)""",
    "webrings": "code_pieces(code) web_ring(code) ring_fault(code, ring)",
    "letrows": """even_rows(code, number) odd_lots(code, number) excess_of(code, number, lot, row)
        worst_lot(code, number, row) let_fault(code, row) is_let(code, row) tight_lots(code, row)
        let_between(code, row, other)""",
    "mixtures": """mixture_of(code, number, row) mixture_fault(code, number, row, mixture) sheets_of(code, row)
        even_parts(code, number, row, sheets) blend_of(code, rows, weights)""",
    "splits": """odd_range(code, lot, row) split_code(code, number, lot) split_word(code, number, lot, word)
        split_range(code, number, lot, row)""",
    "covers": """plain_cover(code, sheets) crossed_wire(cover, number, bit, one, other) joined_covers(one, other)
        cover_code(cover) cover_pieces(cover)""",
    "coverwords": """check_marks(cover, marks) same_on_all(cover, word) coverword_fault(cover, marks)
        is_cover_word(cover, marks) cover_words(cover) average_row(cover, marks) seen_rows(cover, marks, number)""",
    "coverings": "cover_of(code, row, sheets=None) rows_on_sheets(code, sheets)",
    "papers": """paper_price(code, paper) paper_rests(code, prices, paper) paper_fault(code, prices, price, paper)
        summed_paper(one, other) scaled_paper(paper, times) turned_paper(code, prices, paper, word)""",
}
CLASSES = {"codes": ("Code", "(bits, checks)", ("__init__", "__len__", "__eq__")),
           "covers": ("Cover", "(code, sheets, wires)", ("__init__", "__eq__")),
           "coverings": ("Covering", "(cover, marks)", ("__init__",))}
GENERATORS = (("words", "words_of"), ("letrows", "odd_lots"), ("coverwords", "cover_words"),
              ("coverings", "rows_on_sheets"))


def module_of(name):
    """The module of the package with this name."""
    return importlib.import_module(f"letbychecks.{name}")


def listed(name):
    """The couples of name and arguments that are listed for a module."""
    for part in " ".join(FUNCTIONS[name].split()).split(") "):
        called, inside = part.rstrip(")").split("(")
        yield called, f"({inside})"


class Interface(unittest.TestCase):
    def test_functions(self):
        for name in FUNCTIONS:
            for called, arguments in listed(name):
                function = getattr(module_of(name), called)
                self.assertTrue(inspect.isfunction(function), called)
                self.assertEqual(str(inspect.signature(function)), arguments, called)
                self.assertEqual(function.__module__, f"letbychecks.{name}", called)

    def test_generators(self):
        for name, called in GENERATORS:
            self.assertTrue(inspect.isgeneratorfunction(getattr(module_of(name), called)))

    def test_classes(self):
        for name, (called, arguments, methods) in CLASSES.items():
            made = getattr(module_of(name), called)
            self.assertEqual(str(inspect.signature(made)), arguments)
            self.assertEqual(made.__module__, f"letbychecks.{name}")
            for method in methods:
                self.assertIn(method, vars(made))

    def test_results_have_no_equality(self):
        made = module_of("coverings").Covering
        self.assertNotIn("__eq__", vars(made))
        self.assertIs(made.__eq__, object.__eq__)


if __name__ == "__main__":
    unittest.main()
