"""The fewest cases that must be struck."""

import itertools

from fourthlike.books import Book
from fourthlike.errors import BadBook
from fourthlike.rules import Adder
from fourthlike.struck import Struck, struck
from tests.helpers import Case
from tests.test_answers import slow_fitting
from tests.test_books import NO_BOOKS, all_books, some_books


def slow_struck(book):
    """The least tuple of the fewest cases without which some adder fits."""
    for many in range(len(book) + 1):
        for numbers in itertools.combinations(range(len(book)), many):
            if slow_fitting(book.without(numbers)):
                return numbers


BOOKS = all_books(1) + all_books(2) + some_books(60, (2, 3), (0, 8), 1, 0.5)
BOOKS += some_books(15, (4, 6), (5, 10), 2, 0.4) + some_books(5, (4, 4), (12, 13), 3, 0.5)


class StruckTest(Case):
    def test_against_all_lots_of_cases(self):
        many = set()
        for book in BOOKS:
            found = struck(book)
            self.assertIs(type(found), Struck)
            self.same(found.numbers, slow_struck(book))
            self.assertIs(type(found.adder), Adder)
            self.assertIn(found.adder.parts, slow_fitting(book.without(found.numbers)))
            self.assertEqual(struck(Book(book.places, book.cases)), found)
            many.add(len(found.numbers))
        self.assertTrue(many >= {0, 1, 2})

    def test_papers(self):
        self.assertEqual(Struck(numbers=[0], adder=Adder((), 0)).parts, ((0,), Adder((), 0)))
        self.same((Struck(0, 0).word, bool(Struck(0, 0))), ("struck", True))
        self.same(struck(Book(3)).numbers, ())

    def test_errors(self):
        for value in NO_BOOKS:
            self.raised(BadBook("book"), struck, value)

    def test_short_answers(self):
        for book in some_books(30, (6, 6), (16, 16), 8, 0.5) + some_books(30, (4, 4), (16, 16), 8, 0.5):
            self.shortly(struck, book)
