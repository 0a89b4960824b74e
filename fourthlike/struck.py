"""The fewest cases that must be struck so that a book is possible."""

from fourthlike.answers import wrong_cases
from fourthlike.books import need_book
from fourthlike.papers import Paper
from fourthlike.rules import all_adders


class Struck(Paper):
    """The numbers of the cases that are struck, and an adder that fits the others."""

    def __init__(self, numbers, adder):
        Paper.__init__(self, "struck", numbers, adder)
        self.numbers, self.adder = self.parts


def fewest_wrong(book):
    """The pair of the fewest cases at which an adder is wrong, of equally few the least, and the first such adder."""
    adders = all_adders(book.places)
    wrong = [wrong_cases(book, adder) for adder in adders]
    _, numbers, at = min([(len(one), one, number) for number, one in enumerate(wrong)])
    return numbers, adders[at]


def struck(book):
    """The Struck of the least numbers of the fewest cases."""
    need_book(book)
    numbers, adder = fewest_wrong(book)
    return Struck(numbers, adder)
