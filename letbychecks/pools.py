"""Pools of sum checks, and the fewest of them that serve told wishes.

More sum checks never fool more, so what some picks do is done by all picks that hold them.
"""

from letbychecks.codes import MOST_CHECKS, Code, check_lot, check_prices, check_row, is_long, is_lot
from letbychecks.errors import BadLot, BadPicks, BadPool, BadPrices, BadRow, BadWish
from letbychecks.flips import barred_lots
from letbychecks.letrows import is_let
from letbychecks.lots import all_lots, is_within
from letbychecks.peeling import peel_erased
from letbychecks.ratios import is_sequence, is_whole
from letbychecks.verdicts import verdict_at
from letbychecks.words import is_sum_check

MOST_WISHES = 6
MOST_POOL = 5


def wished_thing(code, word, thing):
    """Return the thing of a wish as it is kept, or None; raise BadPrices, BadLot or BadRow."""
    if word == "right":
        return check_prices(code, thing)
    if word == "erased":
        return check_lot(code, thing)
    if word == "barred":
        return check_row(code, thing)
    return thing if word == "flips" and is_whole(thing, 0, code.bits) else None


def told_thing(code, wish):
    """Return the thing of a wish as it is kept, or None if it is no wish, whatever it is."""
    if not is_long(wish, 2) or not isinstance(wish[0], str):
        return None
    try:
        return wished_thing(code, wish[0], wish[1])
    except (BadPrices, BadLot, BadRow):
        return None


def check_wishes(code, wishes):
    """Return the wishes as a tuple of couples (word, thing); raise BadWish(number)."""
    if not is_sequence(wishes) or len(wishes) > MOST_WISHES:
        raise BadWish(-1)
    told = []
    for number, wish in enumerate(wishes):
        thing = told_thing(code, wish)
        if thing is None:
            raise BadWish(number)
        told.append((wish[0], thing))
    return tuple(told)


def is_mended(code, many):
    """Tell whether every lot of so many flips is mended."""
    for _ in barred_lots(code, many):
        return False
    return True


def is_kept(code, word, thing):
    """Tell whether the code keeps a wish."""
    if word == "right":
        return verdict_at(code, thing) == "right"
    if word == "flips":
        return is_mended(code, thing)
    if word == "erased":
        return peel_erased(code, thing).ended
    return not is_let(code, thing)


def first_unkept(code, told):
    """Return the number of the first of the checked wishes that the code does not keep, or None."""
    for number, (word, thing) in enumerate(told):
        if not is_kept(code, word, thing):
            return number
    return None


def wish_fault(code, wishes):
    """Return None, or the number of the first wish that the code does not keep; raise BadWish(number)."""
    return first_unkept(code, check_wishes(code, wishes))


def is_pool_lot(code, thing):
    """Tell whether the thing, whatever it is, is a sum check of the code."""
    return is_lot(thing, code.bits) and is_sum_check(code, thing)


def check_pool(code, pool):
    """Return the pool as a tuple of lots; raise BadPool(place)."""
    if not is_sequence(pool) or not 1 <= len(pool) <= MOST_POOL or len(code) + len(pool) > MOST_CHECKS:
        raise BadPool(-1)
    lots = []
    for place, item in enumerate(pool):
        if not is_pool_lot(code, item) or tuple(sorted(item)) in lots:
            raise BadPool(place)
        lots.append(tuple(sorted(item)))
    return tuple(lots)


def check_picks(pool, picks):
    """Return the picks as an ascending tuple; raise BadPicks()."""
    if not is_lot(picks, len(pool)):
        raise BadPicks()
    return tuple(sorted(picks))


def code_with(code, lots, places):
    """Return the code with these places of the checked pool behind its own checks."""
    return Code(code.bits, list(code.checks) + [lots[place] for place in places])


def with_picks(code, pool, picks):
    """Return the code with the picked sum checks behind its own checks; raise BadPool(place), then BadPicks()."""
    lots = check_pool(code, pool)
    return code_with(code, lots, check_picks(lots, picks))


def they_do(code, lots, told, places):
    """Tell whether the code with these places of the checked pool keeps all the checked wishes."""
    return first_unkept(code_with(code, lots, places), told) is None


def holds_one(lot, others):
    """Tell whether the lot holds all of some other one."""
    return any([is_within(other, lot) for other in others])


def least_pools(code, pool, wishes):
    """Return all least picks that do, in the order of lots; raise BadPool(place), then BadWish(number)."""
    lots = check_pool(code, pool)
    told = check_wishes(code, wishes)
    places = list(range(len(lots)))
    least = []
    # If the whole pool does not do, no picks of it do.
    if they_do(code, lots, told, places):
        for picks in all_lots(places):
            if not holds_one(picks, least) and they_do(code, lots, told, picks):
                least.append(picks)
    return tuple(least)


def find_pool(code, pool, wishes):
    """Return the first of the least picks that do, or None; raise BadPool(place), then BadWish(number)."""
    least = least_pools(code, pool, wishes)
    return least[0] if len(least) > 0 else None


def pool_fault(code, pool, wishes, picks):
    """Return None for least picks that do, else ("wish", number) or ("spare", place).

    Raise BadPool(place), BadWish(number), then BadPicks().
    """
    lots = check_pool(code, pool)
    told = check_wishes(code, wishes)
    places = check_picks(lots, picks)
    number = first_unkept(code_with(code, lots, places), told)
    if number is not None:
        return "wish", number
    for place in places:
        if they_do(code, lots, told, [other for other in places if other != place]):
            return "spare", place
    return None


def is_met(lot, others):
    """Tell whether the lot has a place in common with each of the others."""
    return all([any([place in lot for place in other]) for other in others])


def least_spoilers(code, pool, wishes):
    """Return all least spoilers, in the order of lots; raise BadPool(place), then BadWish(number)."""
    least = least_pools(code, pool, wishes)
    spoilers = []
    # The rest of the pool does exactly if it holds a least pool, so a spoiler meets each of them.
    for places in all_lots(list(range(len(pool)))):
        if is_met(places, least) and not holds_one(places, spoilers):
            spoilers.append(places)
    return tuple(spoilers)
