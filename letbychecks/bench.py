"""A bench: a code and prices that are changed by edits, which can be taken back, and rows that are watched."""

from letbychecks.cheapest import cheapest_let
from letbychecks.codes import check_prices, check_row
from letbychecks.edits import check_edit, edited_all, edited_pair, undo_edit
from letbychecks.errors import NothingDone
from letbychecks.letrows import is_let
from letbychecks.pools import wish_fault
from letbychecks.verdicts import verdict_at


def let_numbers(code, rows):
    """Return the numbers of the rows that are let for the code, ascending."""
    return tuple([number for number, row in enumerate(rows) if is_let(code, row)])


class Bench:
    """The present code and prices, the edits that led to them, and the watched rows."""

    def __init__(self, code, prices):
        self.code = code
        self.prices = check_prices(code, prices)
        # Each edit stands with the edit that undoes it.
        self.done = []
        self.rows = []

    @staticmethod
    def from_edits(code, prices, edits):
        """Return a bench on which these edits were done; raise BadPrices(place), then BadEdit(place)."""
        edited_all(code, prices, edits)
        bench = Bench(code, prices)
        for edit in edits:
            bench.do_edit(edit)
        return bench

    @property
    def log(self):
        """The edits that were done and not taken back, in turn."""
        return tuple([couple[0] for couple in self.done])

    @property
    def watched(self):
        """The watched rows by their numbers."""
        return tuple(self.rows)

    def do_edit(self, edit):
        """Do the edit; raise BadEdit(0)."""
        told = check_edit(self.code, edit)
        self.done.append((told, undo_edit(self.code, self.prices, told)))
        self.code, self.prices = edited_pair(self.code, self.prices, told)

    def add_check(self, lot, number=None):
        """Put in the lot as a check with this number, or behind all others; raise BadEdit(0)."""
        self.do_edit(("add", len(self.code) if number is None else number, lot))

    def drop_check(self, number):
        """Remove the check with this number; raise BadEdit(0)."""
        self.do_edit(("drop", number))

    def set_price(self, bit, price):
        """Set the price of the bit; raise BadEdit(0)."""
        self.do_edit(("price", bit, price))

    def take_back(self):
        """Undo the last edit that was not taken back, and return it; raise NothingDone()."""
        if len(self.done) == 0:
            raise NothingDone()
        edit, back = self.done.pop()
        self.code, self.prices = edited_pair(self.code, self.prices, back)
        return edit

    def verdict_now(self):
        """Return "right" or "fooled" for the present code and prices."""
        return verdict_at(self.code, self.prices)

    def price_now(self):
        """Return the cheapest price of the present code and prices."""
        return cheapest_let(self.code, self.prices).price

    def fault_now(self, wishes):
        """Return None, or the number of the first wish that the present code does not keep; raise BadWish(number)."""
        return wish_fault(self.code, wishes)

    def watch_row(self, row):
        """Watch the row, and return its number; raise BadRow(place)."""
        self.rows.append(check_row(self.code, row))
        return len(self.rows) - 1

    def let_now(self):
        """Return the numbers of the watched rows that are let for the present code, ascending."""
        return let_numbers(self.code, self.rows)

    def tried_edits(self, edits):
        """Return the verdict and what let_now tells behind the edits, and leave all as it is; raise BadEdit(place)."""
        code, prices = edited_all(self.code, self.prices, edits)
        return verdict_at(code, prices), let_numbers(code, self.rows)
