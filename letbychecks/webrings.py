"""The web of a code, which links each check with each of its bits: its pieces and its rings."""

from letbychecks.codes import is_lot
from letbychecks.ratios import is_sequence


def root_of(above, number):
    """Return the number at the top of the numbers above this one, and shorten the way there."""
    while above[number] != number:
        above[number] = above[above[number]]
        number = above[number]
    return number


def joined_groups(many, lots):
    """Return the numbers below many in groups that hang together by the lots, all ascending."""
    above = list(range(many))
    for lot in lots:
        for number in lot[1:]:
            above[root_of(above, number)] = root_of(above, lot[0])
    groups = {}
    for number in range(many):
        groups.setdefault(root_of(above, number), []).append(number)
    return tuple([tuple(group) for group in groups.values()])


def code_pieces(code):
    """Return the lots of bits that hang together by checks, ascending by their least bits."""
    return joined_groups(code.bits, code.checks)


def way_between(links, start, goal):
    """Return a way from start to goal as a list of places, or None if no links lead there."""
    before = {start: None}
    waiting = [start]
    while len(waiting) > 0:
        place = waiting.pop()
        for near in links[place]:
            if near not in before:
                before[near] = place
                waiting.append(near)
    if goal not in before:
        return None
    way = [goal]
    while way[-1] != start:
        way.append(before[way[-1]])
    return way[::-1]


def web_ring(code):
    """Return None if the web has no ring, else any ring."""
    # The bit i is the place i of the web, the check c the place c behind all bits.
    links = [[] for _ in range(code.bits + len(code))]
    for number, check in enumerate(code.checks):
        for bit in check:
            way = way_between(links, bit, code.bits + number)
            if way is not None:
                return tuple([place if place < code.bits else place - code.bits for place in way])
            links[bit].append(code.bits + number)
            links[code.bits + number].append(bit)
    return None


def is_ring_form(code, ring):
    """Tell whether the thing is unlike bits and unlike numbers of checks in turn, two or more of each."""
    if not is_sequence(ring) or len(ring) < 4 or len(ring) % 2 == 1:
        return False
    return is_lot(ring[::2], code.bits) and is_lot(ring[1::2], len(code))


def ring_fault(code, ring):
    """Return None for a ring, else "form" or "wire"."""
    if not is_ring_form(code, ring):
        return "form"
    for place in range(1, len(ring), 2):
        check = code.checks[ring[place]]
        if ring[place - 1] not in check or ring[(place + 1) % len(ring)] not in check:
            return "wire"
    return None
