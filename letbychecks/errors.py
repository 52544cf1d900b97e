"""The errors of the package, each straight under CodeError."""


class CodeError(ValueError):
    """What all errors of the package have in common."""


class BadRatio(CodeError):
    """A top or a bottom that makes no ratio."""

    def __init__(self, what):
        self.what = what


class DividedByNought(CodeError):
    """A ratio was to be divided by zero."""


class BadCode(CodeError):
    """The bits or the checks make no code."""

    def __init__(self, what, place):
        self.what = what
        self.place = place


class BadBit(CodeError):
    """A thing that is no bit of the code."""

    def __init__(self, bit):
        self.bit = bit


class NoCheck(CodeError):
    """A thing that is no number of a check."""

    def __init__(self, number):
        self.number = number


class BadLot(CodeError):
    """A thing that is no lot that is fit here."""


class BadPrices(CodeError):
    """Things that are no prices of the code."""

    def __init__(self, place):
        self.place = place


class BadRow(CodeError):
    """Things that are no row of the code."""

    def __init__(self, place):
        self.place = place


class BadWord(CodeError):
    """A thing that is no word of the code."""

    def __init__(self, number):
        self.number = number


class BadOrder(CodeError):
    """A thing that is no order of the places."""


class UnlikeBits(CodeError):
    """Two codes that differ in the count of their bits."""


class TooMany(CodeError):
    """More than the most that is served."""

    def __init__(self, most):
        self.most = most


class BadText(CodeError):
    """A text that nothing is written as."""

    def __init__(self, place):
        self.place = place


class NotLet(CodeError):
    """A row that is not let on this check, with its worst lot there."""

    def __init__(self, number, lot):
        self.number = number
        self.lot = lot


class BadSheets(CodeError):
    """A thing that is no fit number of sheets."""

    def __init__(self, sheets):
        self.sheets = sheets


class BadRows(CodeError):
    """Things that are no rows of the code."""

    def __init__(self, number):
        self.number = number


class BadWeights(CodeError):
    """Things that are no weights with the sum 1."""

    def __init__(self, place):
        self.place = place


class BadCover(CodeError):
    """The sheets or the wires make no cover."""

    def __init__(self, what, number):
        self.what = what
        self.number = number


class BadWire(CodeError):
    """A wire or copies that cannot be crossed."""


class BadMarks(CodeError):
    """Things that are no marks of the cover."""

    def __init__(self, place):
        self.place = place


class UnlikeCode(CodeError):
    """Two covers of unlike codes."""


class BadTimes(CodeError):
    """A thing that is no whole number from 0."""

    def __init__(self, times):
        self.times = times


class LowRest(CodeError):
    """A bit whose rest is below 0."""

    def __init__(self, bit):
        self.bit = bit


class BadCone(CodeError):
    """Things that are no entries."""

    def __init__(self, place):
        self.place = place


class NotCone(CodeError):
    """Entries that are no cone row."""

    def __init__(self, number, bit):
        self.number = number
        self.bit = bit


class BadMany(CodeError):
    """A thing that is no fit count of bits."""

    def __init__(self, many):
        self.many = many


class BadReceived(CodeError):
    """Things that cannot have been received."""

    def __init__(self, place):
        self.place = place


class OddCount(CodeError):
    """Counts with an odd sum on this check."""

    def __init__(self, number):
        self.number = number


class NotStop(CodeError):
    """A lot that this check meets in just one bit."""

    def __init__(self, number):
        self.number = number


class NotRingless(CodeError):
    """A code whose web has this ring."""

    def __init__(self, ring):
        self.ring = ring


class NotCorner(CodeError):
    """A row that is no corner of the let rows."""

    def __init__(self, row):
        self.row = row


class BadWeb(CodeError):
    """The posts or the ties make no web of ties."""

    def __init__(self, what, place):
        self.what = what
        self.place = place


class BadPost(CodeError):
    """A thing that is no post of the web."""

    def __init__(self, post):
        self.post = post


class NotTies(CodeError):
    """A bit that does not stand in exactly two checks."""

    def __init__(self, bit):
        self.bit = bit


class NotRound(CodeError):
    """A lot of ties that is no round."""

    def __init__(self, what):
        self.what = what


class NotApart(CodeError):
    """Things that are no two rounds apart."""

    def __init__(self, what):
        self.what = what


class NothingLeft(CodeError):
    """No bit is left."""


class NoSmall(CodeError):
    """A thing that names none of the three codes."""

    def __init__(self, which):
        self.which = which


class NoSum(CodeError):
    """A lot that is no sum check."""


class NotHidden(CodeError):
    """A thing that tells no hidden code."""

    def __init__(self, what):
        self.what = what


class BadWish(CodeError):
    """Things that are no wishes."""

    def __init__(self, number):
        self.number = number


class BadPool(CodeError):
    """Things that are no pool of the code."""

    def __init__(self, place):
        self.place = place


class BadPicks(CodeError):
    """A thing that is no lot of places of the pool."""


class BadEdit(CodeError):
    """A thing that is no edit of the code."""

    def __init__(self, place):
        self.place = place


class NothingDone(CodeError):
    """There is no edit to take back."""
