"""Cheapest words of the code of a web of ties, by pairing posts along ways."""

from letbychecks.codes import check_prices, check_word, is_digits, is_long, is_lot
from letbychecks.ratios import is_sequence, is_whole
from letbychecks.rounds import list_rounds, odd_met, other_end, posts_along
from letbychecks.ties import check_ties, web_code
from letbychecks.verdicts import best_word
from letbychecks.words import word_cost


class Pairing:
    """The cost of a word, the word, the ties of price below 0, and the ways from these ties to the word."""

    def __init__(self, price, word, start, ways):
        self.price = price
        self.word = word
        self.start = start
        self.ways = ways


def odd_posts(web, lot):
    """Return the posts that meet an odd number of ties of the lot, ascending; raise BadLot()."""
    return odd_met(web, check_ties(web, lot))


def start_lot(prices):
    """Return the lot of the ties with a price below 0."""
    return tuple([tie for tie, price in enumerate(prices) if price < 0])


def way_out(web, ties, post):
    """Return the couple (goal, way) of a way along these ties from an odd post of them to another one.

    The ties must have no round among them.
    """
    odd = odd_met(web, ties)
    goal = post
    way = []
    while goal == post or goal not in odd:
        near = [tie for tie in ties if tie not in way and goal in web.ties[tie]]
        goal = other_end(web, near[0], goal)
        way.append(near[0])
    return goal, tuple(way)


def paired_ways(web, lot):
    """Return ways (low, high, way) that go along each tie of the lot once; it must have no round in it."""
    ways = []
    left = lot
    odd = odd_met(web, left)
    while len(odd) > 0:
        goal, way = way_out(web, left, odd[0])
        ways.append((odd[0], goal, way))
        left = tuple([tie for tie in left if tie not in way])
        odd = odd_met(web, left)
    return tuple(sorted(ways))


def pair_posts(web, prices):
    """Return the Pairing of the first cheapest word; raise BadPrices(place)."""
    price, word = best_word(web_code(web), prices)
    start = start_lot(prices)
    # No round is among the ties where the word is unlike start: turned back on it, the word would be cheaper or, if
    # all its prices are 0, would have zeros for ones there and so be ahead of the first cheapest word.
    turned = tuple([tie for tie, digit in enumerate(word) if (digit == 1) != (tie in start)])
    return Pairing(price, word, start, paired_ways(web, turned))


def names_odd_posts(web, start, ways):
    """Tell whether the ways name each odd post of start just once, the lower one first, and no other post."""
    if not is_sequence(ways) or not all([is_long(entry, 3) for entry in ways]):
        return False
    if not all([is_whole(entry[0]) and is_whole(entry[1]) and entry[0] < entry[1] for entry in ways]):
        return False
    return sorted([post for entry in ways for post in entry[:2]]) == list(odd_met(web, start))


def is_way(web, low, high, way):
    """Tell whether the thing is a way from low to high."""
    posts = posts_along(web, way, low) if is_sequence(way) else None
    return posts is not None and posts[-1] == high


def along_ways(ways):
    """Return a list of all ties of the ways."""
    return [tie for entry in ways for tie in entry[2]]


def turned_digits(web, start, ties):
    """Return the digits 1 on start, turned on these unlike ties."""
    return tuple([1 if (tie in start) != (tie in ties) else 0 for tie in range(len(web.ties))])


def pairing_fault(web, prices, pairing):
    """Return None, or "start", "pairs", "way", "word" or "price"; raise BadPrices(place)."""
    given = check_prices(web_code(web), prices)
    start = start_lot(given)
    if not is_lot(pairing.start, len(web.ties)) or tuple(pairing.start) != start:
        return "start"
    if not names_odd_posts(web, start, pairing.ways):
        return "pairs"
    if not all([is_way(web, low, high, way) for low, high, way in pairing.ways]):
        return "way"
    ties = along_ways(pairing.ways)
    if len(set(ties)) < len(ties):
        return "way"
    word = turned_digits(web, start, ties)
    if not is_digits(pairing.word, len(web.ties)) or tuple(pairing.word) != word:
        return "word"
    return None if is_whole(pairing.price) and pairing.price == word_cost(given, word) else "price"


def better_round(web, prices, word):
    """Return the first round on which turning the word is cheaper, or None; raise BadPrices(place), BadWord(number)."""
    code = web_code(web)
    given = check_prices(code, prices)
    digits = check_word(code, word)
    for lot in list_rounds(web):
        if sum([given[tie] * (1 - 2 * digits[tie]) for tie in lot]) < 0:
            return lot
    return None
