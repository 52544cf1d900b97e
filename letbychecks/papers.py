"""Papers: weights of odd lots and of bits that bound the price of let rows from below."""

from letbychecks.codes import check_prices, check_word, is_long
from letbychecks.errors import BadTimes, LowRest
from letbychecks.ratios import ZERO, is_ratio, is_sequence, is_whole, lowest
from letbychecks.ratios import ratio_minus, ratio_plus, ratio_sum


def paper_price(code, paper):
    """Return the paper's price, a ratio."""
    lots, bits = paper
    of_lots = ratio_sum([lowest(weight[0] * (len(lot) - 1), weight[1]) for _, lot, weight in lots])
    return ratio_minus(ZERO, ratio_plus(of_lots, ratio_sum([weight for _, weight in bits])))


def rests_at(code, prices, paper):
    """Return the rests of all bits, for prices that need no check."""
    lots, bits = paper
    rests = [(price, 1) for price in prices]
    for bit, weight in bits:
        rests[bit] = ratio_plus(rests[bit], weight)
    for number, lot, weight in lots:
        for bit in code.checks[number]:
            if bit in lot:
                rests[bit] = ratio_plus(rests[bit], weight)
            else:
                rests[bit] = ratio_minus(rests[bit], weight)
    return tuple(rests)


def paper_rests(code, prices, paper):
    """Return the rests of all bits under the prices and the paper; raise BadPrices(place)."""
    return rests_at(code, check_prices(code, prices), paper)


def ascends(things):
    """Tell whether each thing is less than the next one."""
    return all([one < other for one, other in zip(things, things[1:])])


def is_paper_lot(code, number, lot):
    """Tell whether the number is a check's and the lot ascending bits of it, of odd size."""
    if not is_whole(number, 0, len(code) - 1) or not is_sequence(lot) or len(lot) % 2 == 0:
        return False
    return all([is_whole(bit) and bit in code.checks[number] for bit in lot]) and ascends(lot)


def lot_key(number, lot):
    """Return a key that sorts lot entries, and that tells the number and the lot."""
    return number, len(lot), tuple(lot)


def is_paper_form(code, paper):
    """Tell whether the paper has the form of a paper in all but its weights."""
    if not is_long(paper, 2) or not is_sequence(paper[0]) or not is_sequence(paper[1]):
        return False
    lots, bits = paper
    if not all([is_long(entry, 3) and is_paper_lot(code, entry[0], entry[1]) for entry in lots]):
        return False
    if not all([is_long(entry, 2) and is_whole(entry[0], 0, code.bits - 1) for entry in bits]):
        return False
    return ascends([lot_key(entry[0], entry[1]) for entry in lots]) and ascends([entry[0] for entry in bits])


def paper_fault(code, prices, price, paper):
    """Return None if the paper shows the price, else "form", "weight", "bit" or "price"; raise BadPrices(place)."""
    given = check_prices(code, prices)
    if not is_paper_form(code, paper):
        return "form"
    lots, bits = paper
    weights = [entry[2] for entry in lots] + [entry[1] for entry in bits]
    if not all([is_ratio(weight) and weight[0] > 0 for weight in weights]):
        return "weight"
    if any([rest[0] < 0 for rest in rests_at(code, given, paper)]):
        return "bit"
    if not is_ratio(price) or price != paper_price(code, paper):
        return "price"
    return None


def lot_table(lots):
    """Return a dict of the weights of lot entries, by their keys."""
    return {lot_key(number, lot): weight for number, lot, weight in lots}


def bit_table(bits):
    """Return a dict of the weights of bit entries, by their bits."""
    return {bit: weight for bit, weight in bits}


def summed_table(one, other):
    """Return a dict of the sums of the weights under equal keys; a key of one dict alone stays."""
    table = {key: one[key] for key in one}
    for key in other:
        table[key] = ratio_plus(table.get(key, ZERO), other[key])
    return table


def table_paper(lots, bits):
    """Return the paper of both dicts, in its order, without the weights 0."""
    lot_keys = [key for key in sorted(list(lots)) if lots[key][0] > 0]
    bit_keys = [bit for bit in sorted(list(bits)) if bits[bit][0] > 0]
    return (tuple([(number, lot, lots[(number, size, lot)]) for number, size, lot in lot_keys]),
            tuple([(bit, bits[bit]) for bit in bit_keys]))


def summed_paper(one, other):
    """Return the paper of the sums of the weights of equal entries."""
    lots = summed_table(lot_table(one[0]), lot_table(other[0]))
    return table_paper(lots, summed_table(bit_table(one[1]), bit_table(other[1])))


def times_table(table, times):
    """Return the dict with each weight multiplied."""
    return {key: lowest(table[key][0] * times, table[key][1]) for key in table}


def scaled_paper(paper, times):
    """Return the paper with each weight multiplied by the whole number; raise BadTimes(times)."""
    if not is_whole(times, 0):
        raise BadTimes(times)
    return table_paper(times_table(lot_table(paper[0]), times), times_table(bit_table(paper[1]), times))


def turned_lot(code, number, lot, digits):
    """Return the bits of the check that are in just one of the lot and the ones of the digits."""
    return tuple([bit for bit in code.checks[number] if (bit in lot) != (digits[bit] == 1)])


def turned_paper(code, prices, paper, word):
    """Return the paper of the prices turned by the word; raise BadPrices(place), BadWord(number), LowRest(bit)."""
    given = check_prices(code, prices)
    digits = check_word(code, word)
    rests = rests_at(code, given, paper)
    for bit, rest in enumerate(rests):
        if rest[0] < 0:
            raise LowRest(bit)
    lots = lot_table([(number, turned_lot(code, number, lot, digits), weight) for number, lot, weight in paper[0]])
    bits = bit_table(paper[1])
    turned = {bit: (rest if digits[bit] == 1 else bits.get(bit, ZERO)) for bit, rest in enumerate(rests)}
    return table_paper(lots, turned)
