"""What several tests use: small codes and rows, and slow ways to know what the program must return."""

from fractions import Fraction
from itertools import combinations, product
from math import gcd
from random import Random

from letbychecks.codes import Code
from letbychecks.covers import Cover
from letbychecks.ties import Web

FIVE = Code(5, ((0, 1), (0, 1, 2), (2, 3, 4), (3, 4)))
HALF_ROW = ((1, 2), (1, 2), (1, 1), (1, 2), (1, 2))

# Things that are no number, no sequence of numbers, and the like.
ODD_THINGS = (None, True, False, "", "01", 1.0, -1, b"01", {}, set(), object(), (), [[]], ((),), (None,), [True, 1])

# Prices that are none of FIVE, and the place that the error tells.
WRONG_PRICES = ((None, -1), ((), -1), ((0,) * 4, -1), ("00000", -1), ((0, 0, 100, 0, True), 2), ([0, None, 0, 0, 0], 1))


def ratio(number):
    """The ratio of a fraction or an integer."""
    number = Fraction(number)
    return (number.numerator, number.denominator)


def ratios(*numbers):
    """The row of ratios of fractions, integers or strings such as 1/2."""
    return tuple(ratio(number) for number in numbers)


def fractions(row):
    """The fractions of a row of ratios."""
    return [Fraction(*share) for share in row]


def lots_of(bits, sizes=None):
    """All lots of these bits in the order of lots, of these sizes."""
    bits = sorted(bits)
    sizes = range(len(bits) + 1) if sizes is None else sizes
    return [lot for size in sizes for lot in combinations(bits, size)]


def odd_lots_by_hand(check):
    """All odd lots of a check in the order of lots."""
    return lots_of(check, range(1, len(check) + 1, 2))


def excess_by_hand(check, lot, row):
    """The excess as [2.2] tells it."""
    shares = fractions(row)
    inside = sum(shares[bit] for bit in lot)
    outside = sum(shares[bit] for bit in check if bit not in lot)
    return inside - outside - len(lot) + 1


def worst_by_hand(check, row):
    """The couple of worst lot and excess, the first in the order of lots."""
    best = None
    for lot in odd_lots_by_hand(check):
        excess = excess_by_hand(check, lot, row)
        if best is None or excess > best[1]:
            best = (lot, excess)
    return best


def fault_by_hand(code, row):
    """What let_fault must return."""
    for number, check in enumerate(code.checks):
        lot, excess = worst_by_hand(check, row)
        if excess > 0:
            return (number, lot)
    return None


def words_by_hand(code):
    """All words, ascending."""
    return [word for word in product((0, 1), repeat=code.bits)
            if all(sum(word[bit] for bit in check) % 2 == 0 for check in code.checks)]


def sums_by_hand(code):
    """All sum checks in the order of lots."""
    sums = {frozenset()}
    for check in code.checks:
        sums |= {lot ^ frozenset(check) for lot in sums}
    return tuple(sorted((tuple(sorted(lot)) for lot in sums if lot), key=lambda lot: (len(lot), lot)))


def some_code(random, most_bits=6, most_checks=5):
    """A code by chance."""
    bits = random.randint(1, most_bits)
    checks = [random.sample(range(bits), random.randint(1, bits)) for _ in range(random.randint(0, most_checks))]
    return Code(bits, checks)


def some_codes(seed, many, most_bits=6, most_checks=5):
    """Codes by chance, the same ones in each run."""
    random = Random(seed)
    return [some_code(random, most_bits, most_checks) for _ in range(many)]


def some_row(random, bits, bottoms=(1, 2, 3, 4, 6)):
    """A row by chance, let or not."""
    bottom = random.choice(bottoms)
    return tuple(ratio(Fraction(random.randint(0, bottom), bottom)) for _ in range(bits))


def some_cover(random, code, sheets):
    """A cover by chance."""
    wires = [[random.sample(range(sheets), sheets) for _ in check] for check in code.checks]
    return Cover(code, sheets, wires)


def blend_by_hand(rows, weights):
    """The row of sums of weight times share, of fractions and digits or fractions."""
    return tuple(sum(weight * share for weight, share in zip(weights, column)) for column in zip(*rows))


def let_row_on(random, bits, check, steps=4):
    """A row by chance that is let on this check: an average of rows of digits that are even on it."""
    rows = []
    for _ in range(random.randint(1, steps)):
        digits = [random.randint(0, 1) for _ in range(bits)]
        if sum(digits[bit] for bit in check) % 2 == 1:
            digits[random.choice(check)] ^= 1
        rows.append(digits)
    weights = [Fraction(random.randint(1, 4)) for _ in rows]
    weights = [weight / sum(weights) for weight in weights]
    return tuple(ratio(share) for share in blend_by_hand(rows, weights))


def grid_rows(bits, bottom):
    """All rows with this bottom, ascending."""
    return [tuple(ratio(Fraction(top, bottom)) for top in tops) for tops in product(range(bottom + 1), repeat=bits)]


def rests_by_hand(code, prices, paper):
    """The rests as [4.3] tells them."""
    rests = []
    for bit in range(code.bits):
        rest = Fraction(prices[bit]) + sum(Fraction(*weight) for mine, weight in paper[1] if mine == bit)
        rest += sum(Fraction(*weight) for _, lot, weight in paper[0] if bit in lot)
        rest -= sum(Fraction(*weight) for number, lot, weight in paper[0]
                    if bit in code.checks[number] and bit not in lot)
        rests.append(rest)
    return rests


def price_by_hand(paper):
    """The paper's price as [4.3] tells it."""
    return (-sum(Fraction(*weight) * (len(lot) - 1) for _, lot, weight in paper[0])
            - sum(Fraction(*weight) for _, weight in paper[1]))


def some_prices(random, code, most=9):
    """Prices by chance."""
    return tuple(random.randint(-most, most) for _ in range(code.bits))


def rank_by_hand(rows):
    """The rank of rows of numbers."""
    kept = []
    for row in rows:
        left = [Fraction(entry) for entry in row]
        for place, base in kept:
            left = [entry - left[place] * more for entry, more in zip(left, base)]
        place = next((place for place, entry in enumerate(left) if entry), None)
        if place is not None:
            kept.append((place, [entry / left[place] for entry in left]))
    return len(kept)


def met_by_hand(rules):
    """The one row with the value of each rule (slope, value), n rules of n numbers, or None."""
    rows = [[Fraction(entry) for entry in (*slope, value)] for slope, value in rules]
    for place in range(len(rows)):
        pivot = next((row for row in rows[place:] if row[place]), None)
        if pivot is None:
            return None
        rows.remove(pivot)
        pivot = [entry / pivot[place] for entry in pivot]
        rows = [[entry - row[place] * more for entry, more in zip(row, pivot)] for row in rows]
        rows.insert(place, pivot)
    return [row[-1] for row in rows]


def let_rules(code):
    """The rules (slope, bound) of all let rows: the sum of slope times share is at most the bound."""
    rules = {}
    for bit in range(code.bits):
        for sign, bound in ((-1, 0), (1, 1)):
            rules[tuple(sign if place == bit else 0 for place in range(code.bits)), bound] = True
    for check in code.checks:
        for lot in odd_lots_by_hand(check):
            slope = tuple(0 if bit not in check else 1 if bit in lot else -1 for bit in range(code.bits))
            rules[slope, len(lot) - 1] = True
    return list(rules)


def tight_by_hand(code, row):
    """The slopes of the rules that the row meets exactly."""
    shares = fractions(row)
    return [slope for slope, bound in let_rules(code)
            if sum(part * share for part, share in zip(slope, shares)) == bound]


def is_corner_by_hand(code, row):
    """Whether a row is let and its tight rules leave it alone."""
    return fault_by_hand(code, row) is None and rank_by_hand(tight_by_hand(code, row)) == code.bits


def corners_by_hand(code):
    """All corners, ascending, by all choices of n rules: for small codes."""
    found = set()
    for rules in combinations(let_rules(code), code.bits):
        met = met_by_hand(rules)
        if met is not None and all(0 <= share <= 1 for share in met):
            if fault_by_hand(code, ratios(*met)) is None:
                found.add(tuple(met))
    return [ratios(*row) for row in sorted(found)]


def cone_rules_by_hand(code):
    """The slopes of all rules of the cone rows: the sum of slope times entry is 0 at least."""
    rules = {tuple(int(place == bit) for place in range(code.bits)): True for bit in range(code.bits)}
    for check in code.checks:
        for bit in check:
            rules[tuple(0 if other not in check else -1 if other == bit else 1
                        for other in range(code.bits))] = True
    return list(rules)


def keeps_rules(rules, row):
    """Whether the sum of slope times entry is 0 at least for each rule."""
    return all(sum(part * entry for part, entry in zip(rule, row)) >= 0 for rule in rules)


def is_ray_by_hand(code, row):
    """Whether a row of integers is a ray, as its tight rules and its divisor tell."""
    rules = cone_rules_by_hand(code)
    tight = [rule for rule in rules if not sum(part * entry for part, entry in zip(rule, row))]
    return keeps_rules(rules, row) and gcd(*row) == 1 and rank_by_hand(tight) == code.bits - 1


def cone_rows_by_hand(code, most):
    """All cone rows with entries up to the most, ascending."""
    rules = cone_rules_by_hand(code)
    return [row for row in product(range(most + 1), repeat=code.bits) if keeps_rules(rules, row)]


def digit_costs(prices, row):
    """The sum of price times entry or share, a fraction."""
    return sum(price * (Fraction(*entry) if isinstance(entry, tuple) else entry) for price, entry in zip(prices, row))


def some_web(random, most_ties=10):
    """A web by chance: few posts, so that it has rounds, and now and then one that is not joined."""
    ties = random.randint(1, most_ties)
    posts = random.randint(2, max(2, min(20, ties // random.choice((1, 2, 2)) + random.randint(0, 2))))
    return Web(posts, [sorted(random.sample(range(posts), 2)) for _ in range(ties)])


def some_webs(seed, many, most_ties=10):
    """Webs by chance, the same ones in each run."""
    random = Random(seed)
    return [some_web(random, most_ties) for _ in range(many)]


def met_by_ties(web, lot, post):
    """How many ties of the lot the post meets."""
    return sum(post in web.ties[tie] for tie in lot)


def posts_of_ties(web, lot):
    """The set of the posts that the ties meet."""
    return {post for tie in lot for post in web.ties[tie]}


def round_fault_by_hand(web, lot):
    """What round_fault must return."""
    if not lot:
        return "empty"
    if any(met_by_ties(web, lot, post) not in (0, 2) for post in range(web.posts)):
        return "post"
    joined = {lot[0]}
    for _ in lot:
        joined |= {tie for tie in lot if any(set(web.ties[tie]) & set(web.ties[other]) for other in joined)}
    return None if joined == set(lot) else "parts"


def rounds_by_hand(web):
    """All rounds in the order of lots."""
    return [lot for lot in lots_of(range(len(web.ties))) if round_fault_by_hand(web, lot) is None]


def is_way_by_hand(web, way, start, goal):
    """Whether these ties are a way from start to goal."""
    posts = [start]
    for tie in way:
        if posts[-1] not in web.ties[tie]:
            return False
        posts.append(sum(web.ties[tie]) - posts[-1])
    return posts[-1] == goal and len(set(posts)) == len(posts)


def ways_by_hand(web, start, goal, met=()):
    """All ways from start to goal that meet none of these posts, by length, then ascending."""
    if start == goal:
        return [()]
    ways = []
    for tie in range(len(web.ties)):
        post = sum(web.ties[tie]) - start
        if start in web.ties[tie] and post not in met:
            ways.extend((tie, *way) for way in ways_by_hand(web, post, goal, (*met, start)))
    return sorted(ways, key=lambda way: (len(way), way))


def aparts_by_hand(web):
    """All triples (one, other, way) of two rounds apart, one ahead of other in the order of lots."""
    found = []
    for one, other in combinations(rounds_by_hand(web), 2):
        ones, others = posts_of_ties(web, one), posts_of_ties(web, other)
        if not ones & others:
            for start, goal in product(ones, others):
                found.extend((one, other, way) for way in ways_by_hand(web, start, goal)
                             if posts_of_ties(web, way) & (ones | others) == {start, goal})
    return found


class Raises:
    """For test cases: judge the class and the fields of an error."""

    def fails(self, wanted, told, call, *arguments, **more):
        """The call must raise just this class of error, with these fields in this order."""
        with self.assertRaises(ValueError) as caught:
            call(*arguments, **more)
        self.assertIs(type(caught.exception), wanted)
        self.assertEqual(list(vars(caught.exception).values()), list(told))
