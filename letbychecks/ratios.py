"""Ratios: tuples (top, bottom) in lowest terms with a bottom of 1 or more."""

from math import gcd, lcm

from letbychecks.errors import BadRatio, DividedByNought

ZERO = (0, 1)
ONE = (1, 1)
HALF = (1, 2)


def is_whole(thing, low=None, high=None):
    """Tell whether the thing is an integer within the bounds that are not None."""
    # bool is a kind of int for Python, but True is nowhere a number here.
    if not isinstance(thing, int) or isinstance(thing, bool):
        return False
    return (low is None or thing >= low) and (high is None or thing <= high)


def is_sequence(thing):
    """Tell whether the thing is a list or a tuple."""
    return isinstance(thing, (list, tuple))


def common_divisor(one, other):
    """Return the greatest common divisor, 0 exactly if both are 0."""
    return gcd(one, other)


def is_ratio(thing):
    """Tell whether the thing is a ratio."""
    if not isinstance(thing, tuple) or len(thing) != 2:
        return False
    top, bottom = thing
    return is_whole(top) and is_whole(bottom, 1) and gcd(top, bottom) == 1


def is_share(thing):
    """Tell whether the thing is a ratio from 0 to 1."""
    return is_ratio(thing) and 0 <= thing[0] <= thing[1]


def lowest(top, bottom):
    """Return top over bottom in lowest terms, for a bottom that is not 0."""
    divisor = gcd(top, bottom)
    if bottom < 0:
        divisor = -divisor
    return top // divisor, bottom // divisor


def make_ratio(top, bottom=1):
    """Return top over bottom; raise BadRatio("top") or BadRatio("bottom")."""
    if not is_whole(top):
        raise BadRatio("top")
    if not is_whole(bottom) or bottom == 0:
        raise BadRatio("bottom")
    return lowest(top, bottom)


def ratio_plus(one, other):
    """Return one plus other."""
    return lowest(one[0] * other[1] + other[0] * one[1], one[1] * other[1])


def ratio_minus(one, other):
    """Return one less other."""
    return lowest(one[0] * other[1] - other[0] * one[1], one[1] * other[1])


def ratio_times(one, other):
    """Return one times other."""
    return lowest(one[0] * other[0], one[1] * other[1])


def ratio_over(one, other):
    """Return one divided by other; raise DividedByNought() if other is zero."""
    if other[0] == 0:
        raise DividedByNought()
    return lowest(one[0] * other[1], one[1] * other[0])


def ratio_compare(one, other):
    """Return -1, 0 or 1 as one is less than, equal to or greater than other."""
    left = one[0] * other[1]
    right = other[0] * one[1]
    if left == right:
        return 0
    return -1 if left < right else 1


def ratio_sum(ratios):
    """Return the sum of the ratios, zero of none."""
    total = ZERO
    for ratio in ratios:
        total = ratio_plus(total, ratio)
    return total


def over_one_bottom(ratios):
    """Return the couple (tops, bottom) of the ratios over their least common bottom."""
    bottom = 1
    for ratio in ratios:
        bottom = lcm(bottom, ratio[1])
    return tuple([ratio[0] * (bottom // ratio[1]) for ratio in ratios]), bottom
