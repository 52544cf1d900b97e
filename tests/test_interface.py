"""Tests of the interface at the end of the document: names, arguments, and where they are defined."""

import importlib
import inspect
import unittest
from pathlib import Path

FUNCTIONS = {
    "ratios": """is_whole(thing, low=None, high=None) is_sequence(thing) is_ratio(thing) is_share(thing)
        common_divisor(one, other) make_ratio(top, bottom=1) ratio_plus(one, other) ratio_minus(one, other)
        ratio_times(one, other) ratio_over(one, other) ratio_sum(ratios) ratio_compare(one, other)""",
    "codes": """check_bit(code, bit) check_number(code, number) check_lot(code, lot) check_prices(code, prices)
        check_row(code, row) check_word(code, word)""",
    "words": """words_of(code) word_basis(code) count_words(code) is_word(code, word) word_fault(code, word)
        word_lot(word) lot_word(code, lot) word_of_row(row) row_of_word(word) cost_of(prices, row)
        word_cost(prices, word) sum_checks(code) is_sum_check(code, lot) sum_of_checks(code, numbers) with_sums(code)
        alike_codes(one, other) renamed_code(code, order) renamed_things(things, order)""",
    "webrings": "code_pieces(code) web_ring(code) ring_fault(code, ring)",
    "letrows": """even_rows(code, number) odd_lots(code, number) excess_of(code, number, lot, row)
        worst_lot(code, number, row) let_fault(code, row) is_let(code, row) tight_lots(code, row)
        let_between(code, row, other)""",
    "mixtures": """mixture_of(code, number, row) mixture_fault(code, number, row, mixture) sheets_of(code, row)
        even_parts(code, number, row, sheets) blend_of(code, rows, weights)""",
    "splits": """odd_range(code, lot, row) split_code(code, number, lot) split_word(code, number, lot, word)
        split_range(code, number, lot, row)""",
    "covers": """plain_cover(code, sheets) crossed_wire(cover, number, bit, one, other) joined_covers(one, other)
        cover_code(cover) cover_pieces(cover)""",
    "coverwords": """check_marks(cover, marks) same_on_all(cover, word) coverword_fault(cover, marks)
        is_cover_word(cover, marks) cover_words(cover) average_row(cover, marks) seen_rows(cover, marks, number)""",
    "coverings": "cover_of(code, row, sheets=None) rows_on_sheets(code, sheets)",
    "papers": """paper_price(code, paper) paper_rests(code, prices, paper) paper_fault(code, prices, price, paper)
        summed_paper(one, other) scaled_paper(paper, times) turned_paper(code, prices, paper, word)""",
    "cheapest": "cheapest_let(code, prices) share_range(code, prices, bit) is_sole(code, prices)",
    "verdicts": """best_word(code, prices) cheapest_words(code, prices) verdict_at(code, prices)
        price_gap(code, prices)""",
    "cones": """check_entries(code, row) cone_fault(code, row) small_row(code, row) zero_sole(code, prices)
        sole_paper(code, prices) sole_paper_fault(code, prices, paper)""",
    "rays": "all_rays(code) ray_parts(code, row) bars_from(code, row)",
    "flips": "flip_prices(code, lot) flip_fault(code, lot) barred_lots(code, many) greatest_flips(code)",
    "turned": "turned_row(code, row, word) turned_prices(code, prices, word) rival_row(code, prices, word)",
    "mending": "mend_prices(code, prices) mend_received(code, received)",
    "counted": "counted_fault(code, row) counted_cover(code, row)",
    "stops": """stop_fault(code, lot) greatest_stop(code, lot) least_stops(code) joined_stops(code, *lots)
        stop_row(code, lot) row_support(code, row) stop_lots(code)""",
    "peeling": """peel_erased(code, lot, *, order=None) peel_fault(code, lot, steps) peel_waves(code, lot)
        least_hints(code, lot) greatest_erased(code)""",
    "erasures": """check_erased(code, received) erased_lot(code, received) fill_erased(code, received)
        fill_best(code, received) sure_bits(code, received) first_gap(code) received_prices(code, received)
        mend_erased(code, received) both_fault(code, flips, erased) fitting_words(code, received)""",
    "passing": "tables_along(code, prices) price_pairs(code, prices) cheapest_by_passing(code, prices)",
    "corners": """slopes_at(code, row) corners_of(code) check_corner(code, row) corner_prices(code, corner)
        neighbours_of(code, corner) all_neighbours(code) walk_down(code, prices, corner)
        cheapest_corners(code, prices) corner_parts(code, row) parts_fault(code, row, parts)""",
    "integral": "broken_corners(code) all_right(code)",
    "ties": "web_code(web) check_posts(web) web_from_code(code)",
    "rounds": """round_fault(web, lot) round_posts(web, lot) all_rounds(web) all_ways(web, one, other)
        apart_fault(web, two) find_apart(web) apart_row(web, two) apart_ray(web, two) apart_prices(web, two)
        web_rays(web)""",
    "halves": "web_corners(web)",
    "pairings": """odd_posts(web, lot) pair_posts(web, prices) pairing_fault(web, prices, pairing)
        better_round(web, prices, word)""",
    "smallcodes": "echelon_code(code) small_code(which) same_up_to_order(one, other)",
    "cutstruck": """cut_code(code, lot) struck_code(code, lot) small_of(code, cut, struck) find_hidden(code)
        hidden_fault(code, hidden) hidden_prices(code, hidden)""",
    "needless": "needless_parts(code, lot) needed_sums(code)",
    "pools": """check_wishes(code, wishes) wish_fault(code, wishes) check_pool(code, pool) with_picks(code, pool, picks)
        least_pools(code, pool, wishes) find_pool(code, pool, wishes) pool_fault(code, pool, wishes, picks)
        least_spoilers(code, pool, wishes)""",
    "edits": """check_edit(code, edit) edited_pair(code, prices, edit) edited_all(code, prices, edits)
        undo_edit(code, prices, edit) edits_between(code, prices, other, other_prices)""",
    "codetext": "code_text(code) lot_text(lot) word_text(word) read_code(text) read_lot(text) read_word(text)",
    "pricetext": "prices_text(prices) row_text(row) read_prices(text) read_row(text)",
}
CLASSES = {
    "codes": "Code(bits, checks)",
    "covers": "Cover(code, sheets, wires)",
    "coverings": "Covering(cover, marks)",
    "cheapest": "Cheapest(price, row, paper) SpanEnd(share, row, times, paper) Span(low, high)",
    "flips": "Flips(many, lot, row)",
    "mending": "Mended(word) Unsure(row)",
    "peeling": "Peeled(steps, left) Waves(waves, left) Erased(many, lot)",
    "erasures": "Filled(word) Left(lot, told) Clash(number) Several(one, other) NoWord()",
    "integral": "FooledAt(corner, prices)",
    "ties": "Web(posts, ties)",
    "rounds": "TwoRounds(one, other, way)",
    "pairings": "Pairing(price, word, start, ways)",
    "cutstruck": "Hidden(which, cut, struck, order)",
    "bench": "Bench(code, prices)",
}
COMPARED = {"Code": ("__len__", "__eq__"), "Cover": ("__eq__",), "Web": ("__eq__", "__iter__")}
CHECKED = (*COMPARED, "Bench")
METHODS = {
    "Web": "ties_at(self, post)",
    "Bench": """do_edit(self, edit) add_check(self, lot, number=None) drop_check(self, number) set_price(self, bit, price)
        take_back(self) verdict_now(self) price_now(self) fault_now(self, wishes) watch_row(self, row) let_now(self)
        tried_edits(self, edits)""",
}
PROPERTIES = {"Peeled": ("ended",), "Web": ("piece_posts",), "Bench": ("log", "watched")}
GENERATORS = (("words", "words_of"), ("letrows", "odd_lots"), ("coverwords", "cover_words"),
              ("coverings", "rows_on_sheets"), ("verdicts", "cheapest_words"), ("flips", "barred_lots"),
              ("stops", "stop_lots"), ("erasures", "fitting_words"), ("passing", "tables_along"),
              ("rounds", "all_rounds"), ("rounds", "all_ways"), ("rounds", "web_rays"), ("halves", "web_corners"))


def module_of(name):
    """The module of the package with this name."""
    return importlib.import_module(f"letbychecks.{name}")


def listed(texts):
    """The couples of name and arguments of a text."""
    for part in " ".join(texts.split()).split(") "):
        called, inside = part.rstrip(")").split("(")
        yield called, f"({inside})"


class Interface(unittest.TestCase):
    def test_functions(self):
        for name in FUNCTIONS:
            for called, arguments in listed(FUNCTIONS[name]):
                function = getattr(module_of(name), called)
                self.assertTrue(inspect.isfunction(function), called)
                self.assertEqual(str(inspect.signature(function)), arguments, called)
                self.assertEqual(function.__module__, f"letbychecks.{name}", called)

    def test_generators(self):
        for name, called in GENERATORS:
            self.assertTrue(inspect.isgeneratorfunction(getattr(module_of(name), called)))

    def test_classes(self):
        for name, texts in CLASSES.items():
            for called, arguments in listed(texts):
                made = getattr(module_of(name), called)
                self.assertTrue(inspect.isclass(made), called)
                self.assertEqual(str(inspect.signature(made)), arguments or "()")
                self.assertEqual(made.__module__, f"letbychecks.{name}")
                for method in COMPARED.get(called, ()):
                    self.assertIn(method, vars(made))

    def test_methods_and_properties_stand_in_their_classes(self):
        for name, texts in CLASSES.items():
            for called, _ in listed(texts):
                made = getattr(module_of(name), called)
                for method, arguments in listed(METHODS[called]) if called in METHODS else ():
                    self.assertEqual(str(inspect.signature(vars(made)[method])), arguments)
                for word in PROPERTIES.get(called, ()):
                    self.assertIsInstance(vars(made)[word], property)

    def test_the_static_method(self):
        made = vars(module_of("bench").Bench)["from_edits"]
        self.assertIsInstance(made, staticmethod)
        self.assertEqual(str(inspect.signature(made.__func__)), "(code, prices, edits)")

    def test_all_files_are_listed(self):
        """The package has the files of the interface and a few more, which nothing outside needs."""
        listed_files = set(FUNCTIONS) | set(CLASSES) | {"errors"}
        self.assertEqual(len(listed_files), 38)
        folder = Path(module_of("errors").__file__).parent
        self.assertEqual({path.stem for path in folder.glob("*.py")} - listed_files,
                         {"__init__", "boxes", "edges", "lots"})

    def test_results_keep_what_they_are_given(self):
        for name, texts in CLASSES.items():
            for called, arguments in listed(texts):
                if called not in CHECKED:
                    words = [word for word in arguments.strip("()").split(", ") if word]
                    things = {word: object() for word in words}
                    self.assertEqual(vars(getattr(module_of(name), called)(**things)), things)
                    self.assertEqual(list(vars(getattr(module_of(name), called)(*words)).items()),
                                     list(zip(words, words)))

    def test_results_have_no_equality(self):
        for name, texts in CLASSES.items():
            for called, _ in listed(texts):
                if called not in COMPARED:
                    self.assertIs(getattr(module_of(name), called).__eq__, object.__eq__)


if __name__ == "__main__":
    unittest.main()
