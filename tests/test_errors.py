"""Tests of letbychecks.errors: [0.8]."""

import unittest

from letbychecks import errors

LISTED = """
BadRatio(what), DividedByNought(), BadCode(what, place), BadBit(bit), NoCheck(number), BadLot(), BadPrices(place),
BadRow(place), BadWord(number), BadOrder(), UnlikeBits(), TooMany(most), BadText(place), NotLet(number, lot),
BadSheets(sheets), BadRows(number), BadWeights(place), BadCover(what, number), BadWire(), BadMarks(place),
UnlikeCode(), BadTimes(times), LowRest(bit), BadCone(place), NotCone(number, bit), BadMany(many), BadReceived(place),
OddCount(number), NotStop(number), NotRingless(ring), NotCorner(row), BadWeb(what, place), BadPost(post),
NotTies(bit), NotRound(what), NotApart(what), NothingLeft(), NoSmall(which), NoSum(), NotHidden(what),
BadWish(number), BadPool(place), BadPicks(), BadEdit(place), NothingDone()
"""


def listed():
    """The couples of name and attributes."""
    couples = []
    for part in LISTED.replace("\n", " ").split("),"):
        name, inside = part.strip().rstrip(")").split("(")
        couples.append((name, [word.strip() for word in inside.split(",") if word.strip()]))
    return couples


class Errors(unittest.TestCase):
    def test_there_are_45(self):
        self.assertEqual(len(listed()), 45)
        classes = [thing for thing in vars(errors).values() if isinstance(thing, type)]
        self.assertEqual(len(classes), 46)

    def test_the_base(self):
        self.assertEqual(errors.CodeError.__bases__, (ValueError,))

    def test_each_is_straight_under_the_base(self):
        for name, _ in listed():
            self.assertEqual(getattr(errors, name).__bases__, (errors.CodeError,), name)

    def test_attributes_in_order(self):
        for name, attributes in listed():
            things = [object() for _ in attributes]
            error = getattr(errors, name)(*things)
            self.assertEqual(list(vars(error).items()), list(zip(attributes, things)), name)

    def test_attributes_by_name(self):
        for name, attributes in listed():
            things = {attribute: object() for attribute in attributes}
            self.assertEqual(vars(getattr(errors, name)(**things)), things)

    def test_nothing_is_checked(self):
        for name, attributes in listed():
            error = getattr(errors, name)(*[None for _ in attributes])
            self.assertEqual([getattr(error, attribute) for attribute in attributes], [None for _ in attributes])
            self.assertIsInstance(str(error), str)


if __name__ == "__main__":
    unittest.main()
