"""Corners of the let rows, their own prices, their neighbours, and let rows as mixtures of corners.

As a ray, a row stands as its tops and behind them their bottom, without a common divisor. The multiples of let rows
are then a cone, whose rays are the corners, and a rule has a last number for the bottom.
"""

from math import lcm

from letbychecks.codes import check_prices, check_row, is_long
from letbychecks.edges import cut_rays, neighbour_places, ray_sum
from letbychecks.errors import NotCorner, TooMany
from letbychecks.letrows import check_let, excess_top, let_fault, odd_lots_of
from letbychecks.mixtures import is_weight
from letbychecks.ratios import ONE, ZERO, is_sequence, is_share, lowest, over_one_bottom, ratio_sum, ratio_times
from letbychecks.words import cost_of, lot_order

MOST_CORNER_BITS = 6


def check_size(code):
    """Return None; raise TooMany(6) if the code has more bits."""
    if code.bits > MOST_CORNER_BITS:
        raise TooMany(MOST_CORNER_BITS)


def unlike_lots(code):
    """Return the unlike lots of the checks in the order of lots."""
    return sorted(list({check: True for check in code.checks}), key=lot_order)


def side_slope(code, bit, sign):
    """Return the slope that has the sign at the bit alone."""
    return tuple([sign if place == bit else 0 for place in range(code.bits)])


def lot_slope(code, check, lot):
    """Return the slope of an odd lot of a check."""
    slope = [0] * code.bits
    for bit in check:
        slope[bit] = 1 if bit in lot else -1
    return tuple(slope)


def tight_slopes(code, shares):
    """Return the slopes of the tight things at a row, ascending."""
    slopes = [side_slope(code, bit, -1) for bit, share in enumerate(shares) if share == ZERO]
    slopes = slopes + [side_slope(code, bit, 1) for bit, share in enumerate(shares) if share == ONE]
    tops, bottom = over_one_bottom(shares)
    for check in unlike_lots(code):
        for lot in odd_lots_of(check):
            if excess_top(check, lot, tops, bottom) == 0:
                slopes.append(lot_slope(code, check, lot))
    return tuple(sorted(slopes))


def slopes_at(code, row):
    """Return the slopes of the tight things at the let row; raise BadRow(place), TooMany(6), NotLet(number, lot)."""
    shares = check_row(code, row)
    check_size(code)
    return tight_slopes(code, check_let(code, shares))


def is_ranked(rows, rank):
    """Tell whether the rows have this rank at least."""
    kept = []
    for row in rows:
        left = row
        for place, base in kept:
            left = [base[place] * entry - left[place] * more for entry, more in zip(left, base)]
        places = [place for place, entry in enumerate(left) if entry != 0]
        if len(places) > 0:
            kept.append((places[0], left))
        if len(kept) == rank:
            return True
    return False


def is_corner(code, shares):
    """Tell whether a row is a corner of the let rows."""
    return let_fault(code, shares) is None and is_ranked(tight_slopes(code, shares), code.bits)


def check_corner(code, row):
    """Return the corner as a tuple; raise BadRow(place), TooMany(6), then NotCorner(row)."""
    shares = check_row(code, row)
    check_size(code)
    if not is_corner(code, shares):
        raise NotCorner(shares)
    return shares


def corner_prices(code, corner):
    """Return the prices at which the corner alone is cheapest; raise BadRow(place), TooMany(6), NotCorner(row)."""
    slopes = tight_slopes(code, check_corner(code, corner))
    return tuple([-sum([slope[bit] for slope in slopes]) for bit in range(code.bits)])


def row_rules(code):
    """Return a list of all rules of the let rows; the first 2 n are those of the sides; raise TooMany(6)."""
    check_size(code)
    rules = [side_slope(code, bit, 1) + (0,) for bit in range(code.bits)]
    rules = rules + [side_slope(code, bit, -1) + (1,) for bit in range(code.bits)]
    # Small checks leave the fewest corners, so they come first.
    for check in unlike_lots(code):
        for lot in odd_lots_of(check):
            rules.append(tuple([-part for part in lot_slope(code, check, lot)]) + (len(lot) - 1,))
    return rules


def ray_row(ray):
    """Return the row of a ray's tops over its bottom."""
    return tuple([lowest(top, ray[-1]) for top in ray[:-1]])


def corner_rays(code, rules):
    """Return couples (ray, zeros) of all corners, ascending by their rows."""
    starts = [()]
    for _ in range(code.bits):
        starts = [(*row, digit) for row in starts for digit in (0, 1)]
    rays = cut_rays([(*row, 1) for row in starts], 2 * code.bits, rules)
    scale = 1
    for ray, _ in rays:
        scale = lcm(scale, ray[-1])
    scaled = [([top * (scale // ray[-1]) for top in ray[:-1]], ray, zeros) for ray, zeros in rays]
    return [(ray, zeros) for _, ray, zeros in sorted(scaled)]


def rays_rows(rays):
    """Return a list of the rows of the rays."""
    return [ray_row(ray) for ray, _ in rays]


def corners_of(code):
    """Return all corners, ascending; raise TooMany(6)."""
    return tuple(rays_rows(corner_rays(code, row_rules(code))))


def neighbours_of(code, corner):
    """Return the neighbours of the corner, ascending; raise BadRow(place), TooMany(6), NotCorner(row)."""
    shares = check_corner(code, corner)
    rays = corner_rays(code, row_rules(code))
    rows = rays_rows(rays)
    return tuple([rows[place] for place in neighbour_places(rays, rows.index(shares))])


def all_neighbours(code):
    """Return for each corner, ascending, its neighbours; raise TooMany(6)."""
    rays = corner_rays(code, row_rules(code))
    rows = rays_rows(rays)
    return tuple([tuple([rows[other] for other in neighbour_places(rays, place)]) for place in range(len(rays))])


def rows_costs(prices, rows):
    """Return the costs of the rows, times one common bottom."""
    return over_one_bottom([cost_of(prices, row) for row in rows])[0]


def next_place(rays, costs, place):
    """Return the place of the neighbour that costs least if it costs less than this one, else None."""
    less = [(costs[other], other) for other in neighbour_places(rays, place) if costs[other] < costs[place]]
    return min(less)[1] if len(less) > 0 else None


def walk_down(code, prices, corner):
    """Return the corners from this one on, each with the cheapest neighbour behind it, as long as that costs less.

    Raise BadPrices(place), BadRow(place), TooMany(6), then NotCorner(row).
    """
    given = check_prices(code, prices)
    shares = check_corner(code, corner)
    rays = corner_rays(code, row_rules(code))
    rows = rays_rows(rays)
    costs = rows_costs(given, rows)
    way = []
    place = rows.index(shares)
    while place is not None:
        way.append(rows[place])
        place = next_place(rays, costs, place)
    return tuple(way)


def cheapest_corners(code, prices):
    """Return the couple of the least cost and all corners of it, ascending; raise BadPrices(place), TooMany(6)."""
    given = check_prices(code, prices)
    rows = corners_of(code)
    costs = rows_costs(given, rows)
    least = min(costs)
    cheapest = tuple([row for row, cost in zip(rows, costs) if cost == least])
    return cost_of(given, cheapest[0]), cheapest


def corner_parts(code, row):
    """Return couples (corner, weight) of which the let row is the average; raise BadRow, TooMany(6), NotLet."""
    shares = check_row(code, row)
    rules = row_rules(code)
    rays = corner_rays(code, rules)
    tops, bottom = over_one_bottom(check_let(code, shares))
    weights = {ray: weight for ray, weight in ray_sum(rays, rules, (*tops, bottom))}
    return tuple([(ray_row(ray), ratio_times(weights[ray], lowest(ray[-1], bottom)))
                  for ray, _ in rays if ray in weights])


def is_corner_thing(code, thing):
    """Tell whether the thing, whatever it is, is a corner given as a sequence of shares."""
    return is_long(thing, code.bits) and all([is_share(share) for share in thing]) and is_corner(code, thing)


def is_row_before(row, other):
    """Tell whether the row is before the other one."""
    tops, _ = over_one_bottom([*row, *other])
    return tops[:len(row)] < tops[len(row):]


def average_of(code, parts):
    """Return the sums of weight times share."""
    return tuple([ratio_sum([ratio_times(weight, corner[bit]) for corner, weight in parts])
                  for bit in range(code.bits)])


def parts_fault(code, row, parts):
    """Return None if the row is the average of these corners and weights, else what is wrong.

    That is "corner", "order", "weight", "many" or "share". Raise BadRow(place), then TooMany(6).
    """
    shares = check_row(code, row)
    check_size(code)
    if not is_sequence(parts) or not all([is_long(part, 2) and is_corner_thing(code, part[0]) for part in parts]):
        return "corner"
    corners = [part[0] for part in parts]
    if not all([is_row_before(one, other) for one, other in zip(corners, corners[1:])]):
        return "order"
    if not all([is_weight(part[1]) for part in parts]):
        return "weight"
    if len(parts) > code.bits + 1:
        return "many"
    if ratio_sum([part[1] for part in parts]) != ONE or average_of(code, parts) != shares:
        return "share"
    return None
