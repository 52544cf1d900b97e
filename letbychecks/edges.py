"""Rays of cones that rules cut out, and sums of rays.

Here a rule is a tuple of integers, and a row of as many integers keeps to it if the sum of rule times entry is 0 at
least. A ray stands as a couple (row, zeros): the entries have no common divisor but 1, and zeros is the mask of the
numbers of the rules at which the row comes to 0.
"""

from letbychecks.ratios import common_divisor, lowest, ratio_compare


def value_at(rule, row):
    """Return the sum of rule times entry."""
    return sum([one * other for one, other in zip(rule, row)])


def primitive(row):
    """Return the row without a common divisor; it must not be all 0."""
    divisor = 0
    for entry in row:
        divisor = common_divisor(divisor, entry)
    return tuple([entry // divisor for entry in row])


def zeros_at(rules, row):
    """Return the mask of the numbers of the rules at which the row comes to 0."""
    return sum([1 << number for number, rule in enumerate(rules) if value_at(rule, row) == 0])


def has_ones(mask, many):
    """Tell whether the mask has so many binary digits 1 at least."""
    # Each step takes away the last digit 1.
    for _ in range(many - 1):
        mask &= mask - 1
    return many <= 0 or mask != 0


def near_zeros(rays, zeros, least):
    """Return what the zeros have in common with those of each ray, where it is as many as the least at least."""
    both = [zeros & others for _, others in rays]
    return [mask for mask in both if has_ones(mask, least)]


def is_edge(both, near):
    """Tell whether just two of the masks have all that both have.

    Two rays are neighbours exactly if no third one is 0 at all rules at which both are.
    """
    return len([1 for mask in near if mask & both == both]) == 2


def parted_rays(rays, rule):
    """Return the rays that come to above 0, to 0 and to below 0 at the rule, as triples (row, zeros, value)."""
    valued = [(row, zeros, value_at(rule, row)) for row, zeros in rays]
    return ([ray for ray in valued if ray[2] > 0], [ray for ray in valued if ray[2] == 0],
            [ray for ray in valued if ray[2] < 0])


def joined_rays(rays, one, other, sign):
    """Return the rays at which neighbours on unlike sides of a rule with this sign meet it."""
    joined = []
    for row, zeros, value in one:
        least = len(row) - 2
        near = near_zeros(rays, zeros, least)
        for more, others, far in other:
            both = zeros & others
            if has_ones(both, least) and is_edge(both, near):
                met = [abs(far) * x + abs(value) * y for x, y in zip(row, more)]
                joined.append((primitive(met), both | sign))
    return joined


def rays_with(rays, rule, sign):
    """Return the rays of the cone in which the rays are, cut by one rule more."""
    high, level, low = parted_rays(rays, rule)
    kept = [(row, zeros) for row, zeros, _ in high] + [(row, zeros | sign) for row, zeros, _ in level]
    # The masks in common with all rays are taken for each ray of one side, so the smaller side is the better one.
    if len(high) < len(low):
        return kept + joined_rays(rays, high, low, sign)
    return kept + joined_rays(rays, low, high, sign)


def cut_rays(starts, first, rules):
    """Return the rays of the cone of the start rows that keep to the rules from the number first on.

    The start rows are the rays of the cone of the rules before that number.
    """
    rays = [(row, zeros_at(rules[:first], row)) for row in starts]
    for number in range(first, len(rules)):
        rays = rays_with(rays, rules[number], 1 << number)
    return rays


def neighbour_places(rays, place):
    """Return the places of the rays that are neighbours of the one at this place."""
    row, zeros = rays[place]
    least = len(row) - 2
    near = near_zeros(rays, zeros, least)
    boths = [zeros & others for _, others in rays]
    return [other for other, both in enumerate(boths)
            if other != place and has_ones(both, least) and is_edge(both, near)]


def furthest(rules, row, ray):
    """Return the greatest ratio of the ray that can be taken from the row so that all rules are still kept to."""
    best = None
    for rule in rules:
        part = value_at(rule, ray)
        if part > 0:
            ratio = lowest(value_at(rule, row), part)
            if best is None or ratio_compare(ratio, best) < 0:
                best = ratio
    return best


def ray_sum(rays, rules, row):
    """Return a list of couples (ray's row, ratio) with unlike rays that come to the row, which keeps to the rules.

    There are no more rays than entries.
    """
    # Each ray comes to 0 at all rules at which what is left does, and as much of it is taken as can be. So one rule
    # more comes to 0, one that does not follow from those before, and the ray never fits again.
    left = list(row)
    bottom = 1
    parts = []
    while any([entry != 0 for entry in left]):
        zeros = zeros_at(rules, left)
        ray = [mine for mine, others in rays if zeros & others == zeros][0]
        top, under = furthest(rules, left, ray)
        parts.append((ray, lowest(top, under * bottom)))
        left = [under * entry - top * part for entry, part in zip(left, ray)]
        bottom = bottom * under
    return parts
