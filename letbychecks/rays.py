"""The rays of the cone rows, sums of rays, and how many bits a row bars."""

from letbychecks.cones import check_cone, check_entries, cone_slope
from letbychecks.edges import cut_rays, ray_sum
from letbychecks.errors import TooMany
from letbychecks.words import lot_order

MOST_RAY_BITS = 7


def unlike_checks(code):
    """Return the numbers of the checks in the order of their lots, of alike ones just one."""
    numbers = {check: number for number, check in enumerate(code.checks)}
    return [numbers[check] for check in sorted(list(numbers), key=lot_order)]


def cone_rules(code):
    """Return a list of all rules of the cone rows; the first n are that no entry is below 0."""
    rules = [tuple([1 if place == bit else 0 for place in range(code.bits)]) for bit in range(code.bits)]
    # Small checks leave the fewest rays, so they come first.
    for number in unlike_checks(code):
        for bit in code.checks[number]:
            rules.append(cone_slope(code, number, bit))
    return rules


def cone_rays(code, rules):
    """Return couples (ray, zeros) of all rays, ascending; raise TooMany(7)."""
    if code.bits > MOST_RAY_BITS:
        raise TooMany(MOST_RAY_BITS)
    # The rule that an entry is not below 0 is also the row that has 1 there alone.
    return sorted(cut_rays(rules[:code.bits], code.bits, rules))


def all_rays(code):
    """Return all rays, ascending; raise TooMany(7)."""
    return tuple([ray for ray, _ in cone_rays(code, cone_rules(code))])


def ray_parts(code, row):
    """Return couples (ray, weight) that come to the row; raise BadCone(place), TooMany(7), NotCone(number, bit)."""
    entries = check_entries(code, row)
    rules = cone_rules(code)
    rays = cone_rays(code, rules)
    return tuple(sorted(ray_sum(rays, rules, check_cone(code, entries))))


def bars_from(code, row):
    """Return the least number of bits of a lot that the row bars; raise BadCone(place)."""
    entries = sorted(check_entries(code, row), reverse=True)
    many = 0
    while 2 * sum(entries[:many]) < sum(entries):
        many += 1
    return many
