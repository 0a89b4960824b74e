"""Whether papers on books of cases are right."""

import itertools
import random
from unittest.mock import ANY

from fourthlike.answers import Fits, Forced, Open, Quarrel, quarrel, word_of
from fourthlike.books import Book
from fourthlike.check_cases import shows_fits, shows_likely, shows_struck, shows_word
from fourthlike.errors import BadBook, BadRow, Misfit
from fourthlike.likely import Clash, Likely, likely
from fourthlike.papers import Denial, Paper
from fourthlike.rules import Adder
from fourthlike.struck import Struck, struck
from tests.helpers import ODD_VALUES, Case
from tests.test_answers import is_slow_quarrel, is_slowly_forced, slow_fitting
from tests.test_books import NO_BOOKS, all_books, some_books
from tests.test_likely import BOOKS as LIKELY_BOOKS
from tests.test_likely import LATE, slow_walk
from tests.test_rules import NO_ADDERS, NO_BIT_ROWS, all_rows, slow_adders, slow_sum
from tests.test_struck import BOOKS as STRUCK_BOOKS
from tests.test_struck import slow_struck

TORN = Book(2, [((0, 0), 0), ((0, 1), 1), ((1, 0), 0), ((1, 1), 0)])
THREE = Book(2, [((0, 0), 0), ((0, 1), 1), ((1, 0), 1)])
NO_PAPERS = ODD_VALUES + (0, "", "fits", (), [], ANY, Paper("fits", Adder((), 0)), Denial("quarrel", (0, 1)), Fits,
                          Quarrel, Forced, Open, Likely, Clash, Struck, Paper("forced", 0, (0,)), Paper("likely", ()),
                          Paper("struck", (), Adder((), 0)), Adder((), 0), Book(1))
NO_LOTS = ODD_VALUES + (0, "", "01", ANY, [None], [ANY], [[0]], [True], [False, 1], [0, 0], [1, 0], [-1], [-1, 0], [99],
                        [0.0], ["0"], {0: 1}, [0, 1, 1, 2], [10 ** 30])


def lots_of(book):
    """All lots of the cases."""
    return [some for many in range(len(book) + 1) for some in itertools.combinations(range(len(book)), many)]


class CheckFitsTest(Case):
    def test_all_adders_and_lots(self):
        for book in all_books(1) + all_books(2) + some_books(60, (2, 4), (2, 7), 2):
            fits = slow_fitting(book)
            for parts in slow_adders(book.places):
                self.is_right(parts in fits, shows_fits, book, Fits(Adder(*parts)))
            for numbers in lots_of(book):
                self.is_right(is_slow_quarrel(book, numbers), shows_fits, book, Quarrel(numbers))
            self.is_right(True, shows_fits, book, quarrel(book))

    def test_big_books(self):
        for book in some_books(60, (5, 6), (16, 16), 3):
            found = quarrel(book)
            self.is_right(True, self.shortly, shows_fits, book, found)
            if not found:
                numbers = list(found.numbers)
                for at in range(len(numbers)):
                    self.is_right(False, shows_fits, book, Quarrel(numbers[:at] + numbers[at + 1:]))
                self.is_right(False, shows_fits, book, Quarrel(range(16)) if len(numbers) < 16 else Quarrel([]))

    def test_bent_adders(self):
        self.is_right(True, shows_fits, THREE, Fits(Adder([0, 1], 0)))
        for bad in NO_ADDERS + NO_PAPERS[:-2] + (((0, 1), 0), Adder((0, 1), 1), Adder((0,), 0), Adder((0, 1, 2), 0),
                                                 Paper("adder", (0, 1), 0), Adder((1, 0), 0), Adder((0, 1), False),
                                                 Adder((False, 1), 0), [Adder((0, 1), 0)], Fits(Adder((0, 1), 0))):
            self.is_right(False, shows_fits, THREE, Fits(bad))
        for places in range(1, 7):
            book = Book(places)
            self.is_right(True, shows_fits, book, Fits(Adder((places - 1,), 0)))
            self.is_right(False, shows_fits, book, Fits(Adder((places,), 0)))
        for bad in NO_PAPERS + (Adder((0, 1), 0), Paper("fits", Adder((0, 1), 0)), Forced(0, [0])):
            self.is_right(False, shows_fits, THREE, bad)

    def test_bent_quarrels(self):
        self.is_right(True, shows_fits, TORN, Quarrel([0, 1, 2, 3]))
        for bad in NO_LOTS + ([], [0, 1, 2], [1, 2, 3], [3, 2, 1, 0], [0, 1, 2, 3, 3], [0, 1, 2, 4], [0, 1, 2, "3"],
                              [0, 1, 2, 3, 4], [0, True, 2, 3], [False, 1, 2, 3], [-4, -3, -2, -1], [0, 1, 2, 3.0]):
            self.is_right(False, shows_fits, TORN, Quarrel(bad))
        for bad in NO_PAPERS + ([0, 1, 2, 3], Denial("quarrel", (0, 1, 2, 3)), Forced(0, (0, 1, 2, 3))):
            self.is_right(False, shows_fits, TORN, bad)
        # Two quarrels together are none, and neither is one with a free lot beside it.
        rows = [(0, 0, 0), (0, 0, 1), (0, 1, 0), (0, 1, 1), (1, 0, 0), (1, 0, 1), (1, 1, 0), (1, 1, 1)]
        book = Book(3, list(zip(rows, (0, 0, 0, 1, 0, 0, 0, 0))))
        self.is_right(True, shows_fits, book, Quarrel([0, 1, 2, 3]))
        self.is_right(False, shows_fits, book, Quarrel(range(8)))

    def test_errors(self):
        for value in NO_BOOKS:
            self.raised(BadBook("book"), shows_fits, value, None)
            self.raised(BadBook("book"), shows_likely, value, None)
            self.raised(BadBook("book"), shows_struck, value, None)
            self.raised(BadBook("book"), shows_word, value, None, None)


class CheckWordTest(Case):
    def test_all_lots_and_pairs_of_adders(self):
        chance = random.Random(4)
        for book in all_books(1) + all_books(2) + some_books(25, (3, 3), (2, 6), 2):
            fits = slow_fitting(book)
            for row in all_rows(book.places):
                for numbers in lots_of(book):
                    for outcome in (0, 1):
                        wanted = bool(fits) and is_slowly_forced(book, row, outcome, numbers)
                        self.is_right(wanted, shows_word, book, row, Forced(outcome, numbers))
                for one, other in chance.sample(list(itertools.product(slow_adders(book.places), repeat=2)), 12):
                    wanted = one in fits and other in fits and slow_sum(one, row) == 0 and slow_sum(other, row) == 1
                    self.is_right(wanted, shows_word, book, list(row), Open(Adder(*one), Adder(*other)))
                if fits:
                    self.is_right(True, shows_word, book, row, word_of(book, row))

    def test_big_books(self):
        for book in some_books(60, (5, 6), (6, 16), 5, 0):
            for row in all_rows(book.places)[::7]:
                found = word_of(book, row)
                self.is_right(True, self.shortly, shows_word, book, row, found)
                if found.word == "forced":
                    self.is_right(False, shows_word, book, row, Forced(1 - found.outcome, found.numbers))
                    self.is_right(False, shows_word, book, row, Forced(found.outcome, found.numbers[1:]))
                else:
                    self.is_right(False, shows_word, book, row, Open(found.other, found.one))

    def test_books_that_are_not_possible(self):
        for row in all_rows(2):
            for parts in lots_of(TORN):
                for outcome in (0, 1):
                    self.is_right(False, shows_word, TORN, row, Forced(outcome, parts))
            for one, other in itertools.product(slow_adders(2), repeat=2):
                self.is_right(False, shows_word, TORN, row, Open(Adder(*one), Adder(*other)))

    def test_bent_words(self):
        self.is_right(True, shows_word, THREE, (1, 1), Forced(0, [0, 1, 2]))
        for bad in NO_LOTS + ([], [0], [0, 1], [2, 1, 0], [0, 1, 2, 2], [0, 1, 3], [False, True, 2], [0, 1, 2, 3]):
            self.is_right(False, shows_word, THREE, (1, 1), Forced(0, bad))
        for bad in (False, True, 1, 2, -1, None, "0", 0.0, (0,), ANY):
            self.is_right(False, shows_word, THREE, (1, 1), Forced(bad, [0, 1, 2]))
        two = Book(2, [((0, 0), 0), ((0, 1), 1)])
        one, other = Adder((1,), 0), Adder((0, 1), 0)
        self.is_right(True, shows_word, two, (1, 0), Open(one, other))
        for bad in NO_ADDERS + NO_PAPERS[:-2] + (((1,), 0), Adder((1,), 1), Adder((1, 2), 0), Adder((True,), 0),
                                                 Adder((1,), False), Paper("adder", (1,), 0), [one], other):
            self.is_right(False, shows_word, two, (1, 0), Open(bad, other))
            self.is_right(False, shows_word, two, (1, 0), Open(one, bad) if bad != other else Open(one, one))
        for bad in NO_PAPERS + (Paper("open", one, other), Fits(one), (one, other), Paper("forced", 0, (0, 1, 2))):
            self.is_right(False, shows_word, two, (1, 0), bad)

    def test_errors(self):
        for book in (THREE, TORN):
            for row in NO_BIT_ROWS:
                self.raised(BadRow("row"), shows_word, book, row, Forced(0, [0]))
            for row in ([], [0], (0, 1, 1)):
                self.raised(Misfit("places"), shows_word, book, row, None)


class CheckLikelyTest(Case):
    def test_any_threes(self):
        chance = random.Random(7)
        for book in LIKELY_BOOKS:
            told, clashes = slow_walk(book)
            found = likely(book)
            self.is_right(True, shows_likely, book, found)
            self.is_right(False, shows_likely, book, Likely([]) if clashes or told else Clash((0,) * book.places, 0, 0))
            if clashes:
                for row, zeros, ones in clashes:
                    for _ in range(3):
                        value = Clash(row, chance.choice(zeros), chance.choice(ones))
                        self.is_right(True, shows_likely, book, value)
                        self.is_right(False, shows_likely, book, Clash(row, value.other, value.one))
                continue
            for _ in range(3):
                rows = [(row, outcome, chance.choice(threes)) for row, outcome, threes in told]
                self.is_right(True, shows_likely, book, Likely(rows))
                if len(rows) > 1:
                    self.is_right(False, shows_likely, book, Likely(rows[::-1]))

    def test_every_three(self):
        for book in LIKELY_BOOKS[:90:3] + LIKELY_BOOKS[90:240:15]:
            if book.places > 3:
                continue
            told, clashes = slow_walk(book)
            threes = list(itertools.product(all_rows(book.places), repeat=3))
            if clashes:
                right = {row: (zeros, ones) for row, zeros, ones in clashes}
                for row in all_rows(book.places):
                    zeros, ones = right.get(row, ((), ()))
                    for three in threes:
                        one = Clash(row, three, ones[0] if ones else ())
                        self.is_right(three in zeros and bool(ones), shows_likely, book, one)
                        other = Clash(row, zeros[0] if zeros else (), three)
                        self.is_right(three in ones and bool(zeros), shows_likely, book, other)
            for at, (row, outcome, some) in enumerate(told or []):
                for three in threes:
                    rows = [(one, two, all_of[0]) for one, two, all_of in told]
                    rows[at] = (row, outcome, three)
                    self.is_right(three in some, shows_likely, book, Likely(rows))

    def test_bent_rows(self):
        book = Book(2, [((0, 0), 0), ((0, 1), 1), ((1, 0), 0)])
        three = ((0, 0), (0, 1), (1, 0))
        self.is_right(True, shows_likely, book, Likely([((1, 1), 1, three)]))
        self.is_right(True, shows_likely, book, Likely([[[1, 1], 1, [[0, 0], [1, 0], [0, 1]]]]))
        for bad in NO_BIT_ROWS + ([], [1], [1, 1, 1], [True, True], [1, True], ANY, [ANY, 1], [0, 0], [0, 1]):
            self.is_right(False, shows_likely, book, Likely([(bad, 1, three)]))
            for at in range(3):
                if bad != list(three[at]):
                    bent = three[:at] + (bad,) + three[at + 1:]
                    self.is_right(False, shows_likely, book, Likely([((1, 1), 1, bent)]))
        for bad in (0, True, None, "1", 1.0, (1,), 2, ANY):
            self.is_right(False, shows_likely, book, Likely([((1, 1), bad, three)]))
        right = ((1, 1), 1, three)
        for bad in ([], None, "ab", [right, right], [right[:2]], [right + (0,)], right, [None], [ANY], ANY,
                    [right[::-1]], {0: right}, 1, [((0, 0), 0, three)], [right, ((0, 0), 0, ((0, 0),) * 3)],
                    [((1, 1), 1, three[:2])], [((1, 1), 1, three + three[:1])], [((1, 1), 1, None)], [((1, 1), 1, ANY)],
                    [((1, 1), 1, (ANY,) * 3)]):
            self.is_right(False, shows_likely, book, Likely(bad))
        for bad in NO_PAPERS + (Paper("likely", (right,)), [right], Clash((1, 1), three, three)):
            self.is_right(False, shows_likely, book, bad)

    def test_bent_clashes(self):
        row, one, other = (0, 0), ((0, 0), (0, 0), (0, 0)), ((1, 1), (0, 1), (1, 0))
        self.is_right(True, shows_likely, TORN, Clash(row, one, other))
        for bad in NO_BIT_ROWS + ([], [0], [0, 0, 0], [False, False], ANY, [ANY, 0], [[0, 0]]):
            self.is_right(False, shows_likely, TORN, Clash(bad, one, other))
            for at in range(3):
                self.is_right(False, shows_likely, TORN, Clash(row, one[:at] + (bad,) + one[at + 1:], other))
                self.is_right(False, shows_likely, TORN, Clash(row, one, other[:at] + (bad,) + other[at + 1:]))
        for bad in (None, 0, "abc", [], one[:2], one + one[:1], ANY, {0: 1}, [None] * 3, [ANY] * 3, other[::-1]):
            self.is_right(False, shows_likely, TORN, Clash(row, bad, other))
            self.is_right(False, shows_likely, TORN, Clash(row, one, bad if bad != other[::-1] else one))
        for bad in NO_PAPERS + (Denial("clash", row, one, other), (row, one, other), Likely([])):
            self.is_right(False, shows_likely, TORN, bad)

    def test_clashes_of_a_later_turn_alone(self):
        _, clashes = slow_walk(LATE)
        for row, zeros, ones in clashes:
            for one in zeros:
                self.is_right(True, shows_likely, LATE, Clash(row, one, ones[0]))
            for other in ones:
                self.is_right(True, shows_likely, LATE, Clash(row, zeros[0], other))
        # By threes of cases alone no row is given both outcomes.
        for row, zeros, ones in clashes:
            for one, other in itertools.product(zeros, ones):
                self.assertTrue(set(one + other) - set(LATE.rows))

    def test_books_of_more_than_4_places(self):
        for places in (5, 6):
            self.is_right(False, shows_likely, Book(places), Likely([]))
            self.is_right(True, shows_likely, Book(places - 4), Likely([]))

    def test_short_answers(self):
        for book in some_books(20, (4, 4), (5, 16), 9, 0) + some_books(20, (4, 4), (5, 16), 9):
            self.is_right(True, self.shortly, shows_likely, book, likely(book))


class CheckStruckTest(Case):
    def test_all_lots(self):
        for book in STRUCK_BOOKS:
            self.is_right(True, shows_struck, book, struck(book))
            if book.places > 3:
                continue
            most = len(slow_struck(book))
            for numbers in lots_of(book):
                fits = slow_fitting(book.without(numbers)) if len(numbers) == most else []
                for parts in slow_adders(book.places):
                    self.is_right(parts in fits, shows_struck, book, Struck(numbers, Adder(*parts)))

    def test_bent_struck(self):
        book = Book(2, [((0, 0), 0), ((0, 1), 1), ((1, 0), 0), ((1, 1), 0)])
        self.is_right(True, shows_struck, book, Struck([0], Adder((0,), 1)))
        for bad in NO_LOTS + ([], [1], [0, 1], [4], [0, 0]):
            self.is_right(False, shows_struck, book, Struck(bad, Adder((0,), 1)))
        for bad in NO_ADDERS + NO_PAPERS[:-2] + (((0,), 1), Adder((0,), 0), Adder((0, 2), 1), Adder((False,), 1),
                                                 Adder((0,), True), Paper("adder", (0,), 1), [Adder((0,), 1)]):
            self.is_right(False, shows_struck, book, Struck([0], bad))
        for bad in NO_PAPERS + (Paper("struck", (0,), Adder((0,), 1)), [0], Quarrel([0])):
            self.is_right(False, shows_struck, book, bad)
        self.is_right(True, shows_struck, THREE, Struck([], Adder((0, 1), 0)))
        self.is_right(False, shows_struck, THREE, Struck([0], Adder((0, 1), 0)))

    def test_short_answers(self):
        for book in some_books(30, (6, 6), (16, 16), 8, 0.5):
            self.is_right(True, self.shortly, shows_struck, book, struck(book))
