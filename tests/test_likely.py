"""What comes of the cases of a book by fourths alone."""

import itertools

from fourthlike.answers import quarrel, word_of
from fourthlike.books import Book
from fourthlike.errors import BadBook, TooMany
from fourthlike.likely import Clash, Likely, likely
from fourthlike.likenesses import fourth_of
from fourthlike.lots import closed_lot
from fourthlike.rows import Row
from tests.helpers import Case
from tests.test_books import NO_BOOKS, all_books, some_books
from tests.test_rules import all_rows

FOURTHS = {}


def slow_fourth(a, b, c):
    """The fourth of three rows of bits, None if they have none."""
    if (a, b, c) not in FOURTHS:
        found = fourth_of(Row(2, a), Row(2, b), Row(2, c))
        FOURTHS[a, b, c] = found.row.places if found else None
    return FOURTHS[a, b, c]


def slow_outcome(x, y, z):
    """The fourth of three outcomes, None if they have none."""
    return None if y == z != x else z if x == y else y


def slow_given(stands):
    """A dict from (row, outcome) to all threes that give it, ascending."""
    found = {}
    for three in itertools.product(sorted(stands), repeat=3):
        row = slow_fourth(*three)
        outcome = slow_outcome(*[stands[one] for one in three])
        if row is not None and outcome is not None:
            found.setdefault((row, outcome), []).append(three)
    return found


def slow_walk(book):
    """The triples (row, outcome, threes) in their order and None, or None and all clashes (row, threes, threes)."""
    stands = dict(book.cases)
    told = []
    while True:
        given = slow_given(stands)
        clashes = [(row, given[row, 0], given[row, 1]) for row in all_rows(book.places)
                   if (row, 0) in given and (row, 1) in given]
        if clashes:
            return None, clashes
        new = sorted((row, outcome) for row, outcome in given if row not in stands)
        if not new:
            return told, None
        told.extend((row, outcome, given[row, outcome]) for row, outcome in new)
        stands.update(dict(new))


# It clashes in its second turn, not in the first one.
LATE = Book.read("4 : 1 0 0 1 = 0 / 0 0 1 0 = 0 / 0 0 1 1 = 0 / 1 1 1 0 = 0 / 0 1 0 1 = 1 / 0 1 1 1 = 0")
BOOKS = [LATE] + all_books(1) + all_books(2)
BOOKS += some_books(150, (3, 3), (1, 8), 2, 0.2) + some_books(25, (4, 4), (2, 12), 3, 0.1)


class LikelyTest(Case):
    def test_turn_by_turn(self):
        kinds = {Likely: 0, Clash: 0}
        turns = 0
        for book in BOOKS:
            told, clashes = slow_walk(book)
            found = likely(book)
            kinds[type(found)] += 1
            if clashes:
                row, zeros, ones = clashes[0]
                self.same(found.parts, (row, zeros[0], ones[0]))
                self.same((found.row, found.one, found.other), found.parts)
            else:
                self.same(found.rows, tuple((row, outcome, threes[0]) for row, outcome, threes in told))
                turns += [row for row, _, _ in found.rows] != sorted(row for row, _, _ in found.rows)
        self.assertTrue(all(kinds.values()) and turns)

    def test_a_clash_in_the_second_turn(self):
        first = slow_given(dict(LATE.cases))
        self.assertFalse(any((row, 1 - outcome) in first for row, outcome in first))
        found = likely(LATE)
        self.assertIs(type(found), Clash)
        self.assertTrue(set(found.one + found.other) - set(LATE.rows))

    def test_what_comes_is_the_closed_lot(self):
        for book in some_books(60, (2, 3), (1, 8), 5, 0) + all_books(1):
            found = likely(book)
            if not found or not len(book) or book.places > 2:
                continue
            lot = closed_lot([Row(2, [*row, outcome]) for row, outcome in book.cases])
            told = {row: outcome for row, outcome, _ in found.rows}
            told.update(book.cases)
            self.assertEqual({row.places for row in lot.rows}, {(*row, told[row]) for row in told})

    def test_what_comes_is_forced(self):
        clashes = 0
        for book in BOOKS:
            found = likely(book)
            if not quarrel(book):
                clashes += not found
                continue
            self.assertTrue(found)
            for row, outcome, _ in found.rows:
                self.same(word_of(book, row).parts[0], outcome)
        self.assertTrue(clashes)

    def test_what_fourths_do_not_tell(self):
        torn = Book(3, [((0, 0, 0), 0), ((0, 1, 1), 0), ((1, 0, 1), 0), ((1, 1, 0), 1)])
        self.same((bool(quarrel(torn)), likely(torn).rows), (False, ()))
        for places in (1, 2, 3, 4):
            self.same(likely(Book(places)).rows, ())
            self.same(likely(Book(places, [((0,) * places, 1)])).rows, ())

    def test_papers(self):
        self.same(Likely(rows=[[[0], 1, [[0], [0], [1]]]]).rows, (((0,), 1, ((0,), (0,), (1,))),))
        self.same(Clash(row=[0], one=1, other=[2]).parts, ((0,), 1, (2,)))
        self.same((Likely(0).word, Clash(0, 0, 0).word, bool(Likely(0)), bool(Clash(0, 0, 0))),
                  ("likely", "clash", True, False))

    def test_errors(self):
        for value in NO_BOOKS:
            self.raised(BadBook("book"), likely, value)
        for places in (5, 6):
            self.raised(TooMany("places", 4), likely, Book(places))
            self.raised(TooMany("places", 4), likely, Book(places, [((0,) * places, 1)]))

    def test_short_answers(self):
        for book in some_books(20, (4, 4), (5, 16), 9, 0) + some_books(20, (4, 4), (5, 16), 9):
            self.shortly(likely, book)
