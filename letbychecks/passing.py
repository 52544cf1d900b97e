"""Tables of least prices that are passed along a web without a ring.

A table is a couple (price at 0, price at 1), where None stands for no such setting. A place is ("bit", i) or
("check", number), and a wire is a couple (source, target) of places.
"""

from letbychecks.codes import check_prices
from letbychecks.errors import NotRingless
from letbychecks.webrings import code_pieces, web_ring


def added(one, other):
    """Return the sum of two prices, None if one is None."""
    return None if one is None or other is None else one + other


def lesser(one, other):
    """Return the lesser of two prices, the other one if one is None."""
    if one is None or other is None:
        return other if one is None else one
    return min(one, other)


def bit_table(own, tables):
    """Return the bit's own table with the tables added that it receives."""
    low, high = own
    for at_low, at_high in tables:
        low = added(low, at_low)
        high = added(high, at_high)
    return low, high


def check_table(tables):
    """Return the table that a check sends, by the tables that it receives from its other bits."""
    even = 0
    odd = None
    for low, high in tables:
        even, odd = lesser(added(even, low), added(odd, high)), lesser(added(even, high), added(odd, low))
    return even, odd


def web_links(code):
    """Return a dict of the places that each place is joined to by a wire."""
    links = {("bit", bit): [] for bit in range(code.bits)}
    for number, check in enumerate(code.checks):
        links[("check", number)] = [("bit", bit) for bit in check]
        for bit in check:
            links[("bit", bit)].append(("check", number))
    return links


def sent_table(owns, source, tables):
    """Return the table that a place sends, by the tables that it receives on its other wires."""
    if source[0] == "bit":
        return bit_table(owns[source[1]], tables)
    return check_table(tables)


def passed_tables(code, owns):
    """Return a dict of the tables of all wires, each behind those that it is made of; owns are the bits' own tables."""
    links = web_links(code)
    waiting = [(source, target) for source in links for target in links[source]]
    passed = {}
    # Without a ring, some wire that waits always has all that it needs.
    while len(waiting) > 0:
        late = []
        for source, target in list(waiting):
            needed = [(place, source) for place in links[source] if place != target]
            if all([wire in passed for wire in needed]):
                passed[(source, target)] = sent_table(owns, source, [passed[wire] for wire in needed])
            else:
                late.append((source, target))
        waiting = late
    return passed


def own_tables(code, prices):
    """Return the own tables of all bits; raise BadPrices(place), then NotRingless(ring)."""
    given = check_prices(code, prices)
    ring = web_ring(code)
    if ring is not None:
        raise NotRingless(ring)
    return [(0, price) for price in given]


def tables_along(code, prices):
    """Yield triples (source, target, table) of all wires, both ways; raise BadPrices(place), NotRingless(ring)."""
    passed = passed_tables(code, own_tables(code, prices))
    for source, target in passed:
        yield source, target, passed[(source, target)]


def whole_tables(code, owns):
    """Return for each bit the table of least prices of the whole code's words, by the bits' own tables."""
    passed = passed_tables(code, owns)
    tables = []
    for bit in range(code.bits):
        near = [number for number, check in enumerate(code.checks) if bit in check]
        tables.append(bit_table(owns[bit], [passed[(("check", number), ("bit", bit))] for number in near]))
    pieces = code_pieces(code)
    least = [lesser(tables[piece[0]][0], tables[piece[0]][1]) for piece in pieces]
    for piece, price in zip(pieces, least):
        rest = sum(least) - price
        for bit in piece:
            tables[bit] = (added(tables[bit][0], rest), added(tables[bit][1], rest))
    return tables


def price_pairs(code, prices):
    """Return for each bit the least price of a word with 0 there and with 1 there, the latter perhaps None.

    Raise BadPrices(place), then NotRingless(ring).
    """
    return tuple(whole_tables(code, own_tables(code, prices)))


def cheapest_by_passing(code, prices):
    """Return (price, word): the least price and the first word of it; raise BadPrices(place), NotRingless(ring)."""
    owns = own_tables(code, prices)
    low, high = whole_tables(code, owns)[0]
    price = lesser(low, high)
    word = []
    # Bit by bit, 0 is taken and held where some word of the least price has it beside what is held already.
    for bit in range(code.bits):
        if whole_tables(code, owns)[bit][0] == price:
            owns[bit] = (owns[bit][0], None)
            word.append(0)
        else:
            owns[bit] = (None, owns[bit][1])
            word.append(1)
    return price, tuple(word)
