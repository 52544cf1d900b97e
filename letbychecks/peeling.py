"""Erased bits told one by one by checks that have just one of them."""

from letbychecks.codes import check_lot, is_long, is_order
from letbychecks.errors import BadOrder
from letbychecks.lots import all_lots
from letbychecks.ratios import is_whole
from letbychecks.stops import greatest_stop, least_stops, met_bits


class Peeled:
    """The steps (check number, bit) of peeling and the lot that is left."""

    def __init__(self, steps, left):
        self.steps = steps
        self.left = left

    def __iter__(self):
        return iter(self.steps)

    @property
    def ended(self):
        """Tell whether no bit is left."""
        return len(self.left) == 0


class Waves:
    """The lots that are told together, wave by wave, and the lot that is left."""

    def __init__(self, waves, left):
        self.waves = waves
        self.left = left


class Erased:
    """The greatest number of erased bits that are always told, and the first lot of one more that is not."""

    def __init__(self, many, lot):
        self.many = many
        self.lot = lot


def check_peel_order(code, order):
    """Return the numbers of all checks in the order to take them; raise BadOrder()."""
    if order is None:
        return list(range(len(code)))
    if not is_order(order, len(code)):
        raise BadOrder()
    return list(order)


def singles(code, bits, numbers):
    """Return the couples (number, bit) of these checks that have just one of the bits, in turn."""
    met = [(number, met_bits(code.checks[number], bits)) for number in numbers]
    return [(number, own[0]) for number, own in met if len(own) == 1]


def without(bits, told):
    """Return the bits that are not told."""
    return tuple([bit for bit in bits if bit not in told])


def peel_erased(code, lot, *, order=None):
    """Return a Peeled; raise BadLot(), then BadOrder()."""
    left = check_lot(code, lot)
    numbers = check_peel_order(code, order)
    steps = []
    telling = singles(code, left, numbers)
    while len(telling) > 0:
        steps.append(telling[0])
        left = without(left, [telling[0][1]])
        telling = singles(code, left, numbers)
    return Peeled(tuple(steps), left)


def is_step(code, left, step):
    """Tell whether the thing is a couple (number, bit) of a check that has this bit alone of those left."""
    if not is_long(step, 2) or not is_whole(step[0], 0, len(code) - 1) or not is_whole(step[1]):
        return False
    return met_bits(code.checks[step[0]], left) == [step[1]]


def peel_fault(code, lot, steps):
    """Return None, or the index of the first entry that is no step of peeling; raise BadLot()."""
    left = check_lot(code, lot)
    for index, step in enumerate(steps):
        if not is_step(code, left, step):
            return index
        left = without(left, [step[1]])
    return None


def peel_waves(code, lot):
    """Return the Waves of the lot; raise BadLot()."""
    left = check_lot(code, lot)
    numbers = list(range(len(code)))
    waves = []
    telling = singles(code, left, numbers)
    while len(telling) > 0:
        told = [bit for _, bit in telling]
        waves.append(tuple([bit for bit in left if bit in told]))
        left = without(left, told)
        telling = singles(code, left, numbers)
    return Waves(tuple(waves), left)


def least_hints(code, lot):
    """Return the fewest bits that must be told from outside, the first such lot; raise BadLot()."""
    # A hint on a bit that is told anyway is none of the fewest.
    left = greatest_stop(code, lot)
    for hints in all_lots(left):
        if len(greatest_stop(code, without(left, hints))) == 0:
            return hints
    return left


def greatest_erased(code):
    """Return the Erased of the code."""
    least = least_stops(code)
    if len(least) == 0:
        return Erased(code.bits, None)
    # Peeling does not end exactly if a stop lot is left, and of the fewest bits it is the stop lot itself.
    return Erased(len(least[0]) - 1, least[0])
