"""What books of cases force, and what they leave open."""

import itertools

from fourthlike.answers import Fits, Forced, Open, Quarrel, fitting, quarrel, word_of
from fourthlike.books import Book
from fourthlike.errors import BadBook, BadRow, Impossible, Misfit
from fourthlike.rules import Adder
from tests.helpers import Case
from tests.test_books import NO_BOOKS, all_books, some_books
from tests.test_rules import NO_BIT_ROWS, all_rows, slow_adders, slow_sum

BOOKS = all_books(1) + all_books(2) + some_books(200) + some_books(40, (5, 6), (12, 16), 3)


def slow_fitting(book):
    """The parts of all adders that fit, in their order."""
    return [parts for parts in slow_adders(book.places)
            if all(slow_sum(parts, row) == outcome for row, outcome in book.cases)]


def is_nothing(rows):
    """Whether an even lot of rows adds up to the row of 0s."""
    return len(rows) % 2 == 0 and all(sum(bits) % 2 == 0 for bits in zip(*rows))


def is_slowly_free(rows):
    """Whether no even lot of the rows, but the empty one, adds up to the row of 0s."""
    return not any(is_nothing(some) for many in range(2, len(rows) + 1, 2)
                   for some in itertools.combinations(rows, many))


def is_slow_quarrel(book, numbers):
    """Whether these numbers are a quarrel, by the words of the document."""
    rows = [book.rows[number] for number in numbers]
    if not numbers or not is_nothing(rows) or sum(book.outcomes[number] for number in numbers) % 2 != 1:
        return False
    return all(is_slowly_free(some) for some in itertools.combinations(rows, len(rows) - 1))


def is_slowly_forced(book, row, outcome, numbers):
    """Whether these numbers are a free odd lot that adds up to the row and this outcome."""
    rows = [book.rows[number] for number in numbers]
    return (len(rows) % 2 == 1 and is_nothing(rows + [row]) and is_slowly_free(rows)
            and sum(book.outcomes[number] for number in numbers) % 2 == outcome)


class AnswersTest(Case):
    def test_which_adders_fit(self):
        for book in BOOKS:
            found = fitting(book)
            self.assertIs(type(found), tuple)
            self.same([adder.parts for adder in found], slow_fitting(book))
            self.assertTrue(all(type(adder) is Adder for adder in found))

    def test_quarrels(self):
        kinds = set()
        for book in BOOKS:
            found = quarrel(book)
            kinds.add(type(found))
            if slow_fitting(book):
                self.assertIs(type(found), Fits)
                self.assertIs(type(found.adder), Adder)
                self.assertIn(found.adder.parts, slow_fitting(book))
            else:
                self.assertIs(type(found), Quarrel)
                self.same(found.numbers, tuple(sorted(set(found.numbers))))
                self.assertTrue(is_slow_quarrel(book, found.numbers))
            self.assertEqual(quarrel(Book(book.places, book.cases)), found)
        self.assertEqual(kinds, {Fits, Quarrel})

    def test_words_of_all_rows(self):
        for book in BOOKS:
            fits = slow_fitting(book)
            for row in all_rows(book.places):
                if not fits:
                    self.raised(Impossible(quarrel(book)), word_of, book, row)
                    continue
                found = word_of(book, list(row))
                outcomes = {slow_sum(parts, row) for parts in fits}
                if len(outcomes) == 1:
                    self.assertIs(type(found), Forced)
                    self.same(found.outcome, min(outcomes))
                    self.same(found.numbers, tuple(sorted(found.numbers)))
                    self.assertTrue(is_slowly_forced(book, row, found.outcome, found.numbers))
                else:
                    self.assertIs(type(found), Open)
                    self.assertIn(found.one.parts, fits)
                    self.assertIn(found.other.parts, fits)
                    self.same([slow_sum(found.one.parts, row), slow_sum(found.other.parts, row)], [0, 1])
                self.assertEqual(word_of(Book(book.places, book.cases), row), found)

    def test_with_a_case_more(self):
        for book in some_books(60, (1, 4), (0, 8), 12, 0):
            for row in all_rows(book.places):
                if row in book.rows:
                    continue
                found = word_of(book, row)
                for outcome in (0, 1):
                    more = book.with_case(row, outcome)
                    if found.word == "open":
                        self.same(len(fitting(more)) * 2, len(fitting(book)))
                    else:
                        self.same(len(fitting(more)), len(fitting(book)) * (found.outcome == outcome))

    def test_no_cases(self):
        for places in range(1, 7):
            self.same(len(fitting(Book(places))), 2 ** (places + 1))
            for row in all_rows(places):
                self.same(word_of(Book(places), row).word, "open")
            self.same(quarrel(Book(places)).word, "fits")

    def test_papers(self):
        adder = Adder((), 0)
        self.same((Fits(adder=adder).parts[0].parts, Quarrel(numbers=[0, 1]).numbers), (((), 0), (0, 1)))
        found = Forced(outcome=1, numbers=[0])
        self.same((found.outcome, found.numbers), (1, (0,)))
        self.assertEqual(Open(one=adder, other=1).parts, (adder, 1))
        self.same((Fits(0).word, Quarrel(0).word), ("fits", "quarrel"))
        self.same((Forced(0, 0).word, Open(0, 0).word), ("forced", "open"))
        self.same((bool(Fits(0)), bool(Quarrel(0)), bool(Forced(0, 0)), bool(Open(0, 0))), (True, False, True, True))

    def test_errors(self):
        for value in NO_BOOKS:
            self.raised(BadBook("book"), quarrel, value)
            self.raised(BadBook("book"), fitting, value)
            self.raised(BadBook("book"), word_of, value, None)
        torn = Book(2, [((0, 0), 0), ((0, 1), 0), ((1, 0), 0), ((1, 1), 1)])
        for book in (Book(2), torn):
            for row in NO_BIT_ROWS:
                self.raised(BadRow("row"), word_of, book, row)
            for row in ([], [0], (0, 1, 1)):
                self.raised(Misfit("places"), word_of, book, row)
        self.raised(Impossible(Quarrel([0, 1, 2, 3])), word_of, torn, [0, 0])

    def test_short_answers(self):
        for book in some_books(60, (6, 6), (16, 16), 4):
            self.shortly(quarrel, book)
            for row in all_rows(6)[::9]:
                if self.shortly(fitting, book):
                    self.shortly(word_of, book, row)
