"""The errors of the package, all below LikeError."""


class LikeError(ValueError):
    """The base of all errors of the package."""


class BadRow(LikeError):
    """This part is no row, or no list of rows."""

    def __init__(self, part):
        self.part = part


class BadWord(LikeError):
    """This part is no word."""

    def __init__(self, part):
        self.part = part


class BadTerm(LikeError):
    """This part is no term, or no list of terms."""

    def __init__(self, part):
        self.part = part


class BadPattern(LikeError):
    """This part is no pattern."""

    def __init__(self, part):
        self.part = part


class BadLattice(LikeError):
    """This part is no lattice."""

    def __init__(self, part):
        self.part = part


class BadWorld(LikeError):
    """This part is no world."""

    def __init__(self, part):
        self.part = part


class BadRule(LikeError):
    """This part is no rule."""

    def __init__(self, part):
        self.part = part


class BadBook(LikeError):
    """This part is no book."""

    def __init__(self, part):
        self.part = part


class BadTold(LikeError):
    """This part is no told."""

    def __init__(self, part):
        self.part = part


class BadForms(LikeError):
    """This part is no table of forms."""

    def __init__(self, part):
        self.part = part


class BadOrder(LikeError):
    """This part is no order, or no list of orders."""

    def __init__(self, part):
        self.part = part


class BadNumber(LikeError):
    """This part is no number within its bounds."""

    def __init__(self, part):
        self.part = part


class BadPaper(LikeError):
    """This part is no paper of the class that is asked for."""

    def __init__(self, part):
        self.part = part


class BadDesk(LikeError):
    """This part is no desk."""

    def __init__(self, part):
        self.part = part


class Misfit(LikeError):
    """This part of the values that were passed does not fit together."""

    def __init__(self, part):
        self.part = part


class Missing(LikeError):
    """The value is none here."""

    def __init__(self, value):
        self.value = value


class NoThing(Missing):
    """The value is no thing here."""


class NoMove(Missing):
    """The value is no move here."""


class NoPlace(Missing):
    """The value is no place here."""


class NoCase(Missing):
    """The value is no case's number here."""


class NoHole(Missing):
    """The value is no hole here."""


class NoName(Missing):
    """The value is no name that is kept or told here."""


class Twice(LikeError):
    """The value stands there already."""

    def __init__(self, value):
        self.value = value


class Ring(LikeError):
    """Each of the names would be beneath the next one, the last beneath the first."""

    def __init__(self, names):
        self.names = names


class NoBound(LikeError):
    """Two things have no meet or no join."""

    def __init__(self, one, other, side):
        self.one = one
        self.other = other
        self.side = side


class Impossible(LikeError):
    """It cannot be: the paper, a denial, shows it."""

    def __init__(self, paper):
        self.paper = paper


class TooMany(LikeError):
    """There are more than most of them."""

    def __init__(self, what, most):
        self.what = what
        self.most = most


class Nothing(LikeError):
    """There is nothing to answer from."""


class BadText(LikeError):
    """The item of the text cannot stand, or is missing."""

    def __init__(self, line, item):
        self.line = line
        self.item = item


class BadLine(LikeError):
    """A line of a desk raised the error."""

    def __init__(self, line, error):
        self.line = line
        self.error = error
