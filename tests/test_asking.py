"""Which rows must be asked until all outcomes are forced."""

from fourthlike.answers import quarrel, word_of
from fourthlike.asking import free_cases, instead_of, rows_to_ask
from fourthlike.books import Book
from fourthlike.errors import BadBook, BadRow, Impossible, Misfit
from tests.helpers import Case
from tests.test_answers import is_slowly_free, slow_fitting
from tests.test_books import NO_BOOKS, all_books, some_books
from tests.test_rules import NO_BIT_ROWS, all_rows, slow_sum

BOOKS = all_books(1) + all_books(2) + some_books(120)


def forced_outcome(fits, row):
    """The outcome that the adders that fit force, None if the row is open."""
    outcomes = {slow_sum(parts, row) for parts in fits}
    return min(outcomes) if len(outcomes) == 1 else None


def fits_with(fits, row, outcome):
    """Those of the adders that tell this outcome at the row."""
    return [parts for parts in fits if slow_sum(parts, row) == outcome]


class AskingTest(Case):
    def test_free_cases(self):
        for book in BOOKS:
            if not slow_fitting(book):
                self.raised(Impossible(quarrel(book)), free_cases, book)
                continue
            found = free_cases(book)
            wanted = tuple(number for number in range(len(book)) if forced_outcome(
                slow_fitting(Book(book.places, book.cases[:number])), book.rows[number]) is None)
            self.same(found, wanted)
            self.assertTrue(is_slowly_free([book.rows[number] for number in found]))
            self.same(len(slow_fitting(book)) * 2 ** len(found), 2 ** (book.places + 1))

    def test_rows_to_ask(self):
        for book in BOOKS:
            fits = slow_fitting(book)
            if not fits:
                self.raised(Impossible(quarrel(book)), rows_to_ask, book)
                continue
            asked = []
            for row in all_rows(book.places):
                if forced_outcome(fits, row) is None:
                    asked.append(row)
                    fits = fits_with(fits, row, 0)
            self.same(rows_to_ask(book), tuple(asked))
            self.assertEqual(len(fits), 1)
            self.assertEqual(len(asked), book.places + 1 - len(free_cases(book)))

    def test_instead_of(self):
        for book in BOOKS[:90] + BOOKS[-60:]:
            fits = slow_fitting(book)
            rows = all_rows(book.places)
            for row in rows:
                if not fits:
                    self.raised(Impossible(quarrel(book)), instead_of, book, row)
                    continue
                found = instead_of(book, list(row))
                if forced_outcome(fits, row) is not None:
                    self.same(found, ())
                    continue
                self.same(found, tuple(other for other in rows if forced_outcome(fits, other) is None
                                       and forced_outcome(fits_with(fits, other, 0), row) is not None))
                self.assertIn(row, found)
                self.assertTrue(all(row in instead_of(book, other) for other in found[:2]))

    def test_no_cases_and_whole_books(self):
        for places in range(1, 7):
            rows = rows_to_ask(Book(places))
            self.assertEqual(len(rows), places + 1)
            book = Book(places, [(row, 1) for row in rows])
            self.same((rows_to_ask(book), free_cases(book)), ((), tuple(range(places + 1))))
            self.same((free_cases(Book(places)), instead_of(Book(places), (0,) * places)), ((), ((0,) * places,)))
            self.same(word_of(book, (1,) * places).outcome, 1)

    def test_errors(self):
        torn = Book(2, [((0, 0), 0), ((0, 1), 0), ((1, 0), 0), ((1, 1), 1)])
        for value in NO_BOOKS:
            self.raised(BadBook("book"), free_cases, value)
            self.raised(BadBook("book"), rows_to_ask, value)
            self.raised(BadBook("book"), instead_of, value, None)
        for book in (Book(2), torn):
            for row in NO_BIT_ROWS:
                self.raised(BadRow("row"), instead_of, book, row)
            for row in ([], [0], (0, 1, 1)):
                self.raised(Misfit("places"), instead_of, book, row)

    def test_short_answers(self):
        for book in some_books(20, (6, 6), (3, 16), 4, 0):
            self.shortly(free_cases, book)
            self.shortly(rows_to_ask, book)
            for row in all_rows(6)[::7]:
                self.shortly(instead_of, book, row)
