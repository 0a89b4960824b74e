"""What books of cases force, and what they leave open."""

from fourthlike.books import need_book, need_book_and_row
from fourthlike.errors import Impossible
from fourthlike.freelots import lots_ahead
from fourthlike.papers import Denial, Paper
from fourthlike.rules import all_adders, sum_at


class Fits(Paper):
    """An adder that fits a book."""

    def __init__(self, adder):
        Paper.__init__(self, "fits", adder)
        self.adder = self.parts[0]


class Quarrel(Denial):
    """The numbers of the cases of a quarrel."""

    def __init__(self, numbers):
        Denial.__init__(self, "quarrel", numbers)
        self.numbers = self.parts[0]


class Forced(Paper):
    """The outcome of a row, and the numbers of a free odd lot of cases that adds up to both."""

    def __init__(self, outcome, numbers):
        Paper.__init__(self, "forced", outcome, numbers)
        self.outcome, self.numbers = self.parts


class Open(Paper):
    """Two adders that fit; the outcome of a row is 0 by the one, 1 by the other."""

    def __init__(self, one, other):
        Paper.__init__(self, "open", one, other)
        self.one, self.other = self.parts


def sum_of_outcomes(book, numbers):
    """The sum by two of the outcomes of these cases."""
    return sum([book.outcomes[number] for number in numbers]) % 2


def quarrel_of(book):
    """The numbers of a quarrel, None if there is none.

    A case and the free lot ahead of it that adds up to its row: of these cases no lesser lot adds up to nothing.
    """
    for number, lot in enumerate(lots_ahead(book.rows)):
        if lot is not None and sum_of_outcomes(book, lot) != book.outcomes[number]:
            return (*lot, number)
    return None


def wrong_cases(book, adder):
    """The ascending tuple of the numbers of the cases at which the adder is wrong."""
    return tuple([number for number, (row, outcome) in enumerate(book.cases) if sum_at(adder, row) != outcome])


def adders_that_fit(book):
    """The list of all adders that fit, in their order."""
    return [adder for adder in all_adders(book.places) if len(wrong_cases(book, adder)) == 0]


def need_possible(book):
    """Raises Impossible with a Quarrel unless the book is possible."""
    numbers = quarrel_of(book)
    if numbers is not None:
        raise Impossible(Quarrel(numbers))


def quarrel(book):
    """A Fits of a possible book, otherwise a Quarrel."""
    need_book(book)
    numbers = quarrel_of(book)
    return Fits(adders_that_fit(book)[0]) if numbers is None else Quarrel(numbers)


def word_of(book, row):
    """The Forced or the Open of the row."""
    need_book_and_row(book, row)
    need_possible(book)
    lot = lots_ahead([*book.rows, row])[-1]
    if lot is not None:
        return Forced(sum_of_outcomes(book, lot), lot)
    adders = adders_that_fit(book)
    zeros = [adder for adder in adders if sum_at(adder, row) == 0]
    ones = [adder for adder in adders if sum_at(adder, row) == 1]
    return Open(zeros[0], ones[0])


def fitting(book):
    """The tuple of all adders that fit, ascending by their places, then by their constants."""
    need_book(book)
    return tuple(adders_that_fit(book))
