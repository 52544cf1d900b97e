"""The cheapest row of a box under rules, where broken rules are found one by one.

A rule is a tuple (slope, bound, name): a row keeps to it if the sum of slope times share is the bound at least. The
box has a rule ("low", bit) for each share from 0 on and a rule ("high", bit) for each share up to 1.

The row is where n rules meet of which the prices are a sum with weights from 0, so no row that keeps to these n rules
is cheaper. If the row breaks another rule, this one takes the place of one of the n. A column tells of each of them
its weight and, for each bit, how far the share goes if only this rule's bound is raised by 1. All columns are whole
numbers over one common bottom.
"""

from letbychecks.ratios import lowest


def side_rule(many, bit, sign):
    """Return the rule that the share of the bit is 0 at least (sign 1) or 1 at most (sign -1)."""
    slope = tuple([sign if place == bit else 0 for place in range(many)])
    return slope, min(sign, 0), ("low" if sign > 0 else "high", bit)


def worst_side(tops, bottom):
    """Return the couple (lack, rule) of the side of the box that is broken most, (0, None) if none is."""
    low = min(tops)
    high = max(tops)
    if max(-low, high - bottom) <= 0:
        return 0, None
    if -low >= high - bottom:
        return -low, side_rule(len(tops), tops.index(low), 1)
    return high - bottom, side_rule(len(tops), tops.index(high), -1)


def broken_rule(code, tops, bottom, worst_rule):
    """Return the rule of the code or the box that is broken most, or None."""
    lack, rule = worst_rule(code, tops, bottom)
    side_lack, side = worst_side(tops, bottom)
    return rule if lack >= side_lack else side


def start_columns(prices, signs):
    """Return the columns of the sides of the box, one for each bit, that have these signs."""
    columns = []
    for bit, price in enumerate(prices):
        columns.append([price * signs[bit]] + [signs[bit] if place == bit else 0 for place in range(len(prices))])
    return columns


def meeting_tops(rules, columns):
    """Return the tops of the row at which the rules meet."""
    bounds = [rule[1] for rule in rules]
    return [sum([column[place] * bound for column, bound in zip(columns, bounds)])
            for place in range(1, len(columns) + 1)]


def rule_parts(rule, columns):
    """Return how often each of the n rules is in the rule's slope."""
    return [sum([one * other for one, other in zip(rule[0], column[1:])]) for column in columns]


def leaving_place(columns, parts):
    """Return the place of the rule that a broken rule, with these parts of the n rules, takes.

    The weight of the broken rule rises until another weight comes to 0. Where several do at once the further entries
    of the columns decide, as if all prices were a little off, so that no n rules come again. There is such a place,
    for the row of zeros keeps to all rules.
    """
    best = None
    for place, part in enumerate(parts):
        if part > 0 and (best is None or [entry * parts[best] for entry in columns[place]]
                         < [entry * part for entry in columns[best]]):
            best = place
    return best


def changed_columns(columns, bottom, parts, place):
    """Return the columns with the broken rule in this place; their new common bottom is its part there."""
    pivot = parts[place]
    column = columns[place]
    changed = []
    for old, part in zip(columns, parts):
        changed.append([(entry * pivot - part * more) // bottom for entry, more in zip(old, column)])
    changed[place] = column
    return changed


def cheapest_corner(code, prices, worst_rule):
    """Return the couple (row, members) of a cheapest row of the box that keeps to all rules of the code.

    worst_rule(code, tops, bottom) returns (lack, rule) with the rule that the row of tops over the bottom breaks most
    and by how much, times the bottom, or (0, None). The prices are whole numbers of any size. The members are n
    couples (rule, weight) of unlike rules that meet in the row alone, and of which the prices are the sum.
    """
    signs = [-1 if price < 0 else 1 for price in prices]
    columns = start_columns(prices, signs)
    rules = [side_rule(code.bits, bit, sign) for bit, sign in enumerate(signs)]
    bottom = 1
    tops = meeting_tops(rules, columns)
    rule = broken_rule(code, tops, bottom, worst_rule)
    while rule is not None:
        parts = rule_parts(rule, columns)
        place = leaving_place(columns, parts)
        columns = changed_columns(columns, bottom, parts, place)
        bottom = parts[place]
        rules[place] = rule
        tops = meeting_tops(rules, columns)
        rule = broken_rule(code, tops, bottom, worst_rule)
    members = [(member, lowest(column[0], bottom)) for member, column in zip(rules, columns)]
    return tuple([lowest(top, bottom) for top in tops]), members
