"""Books of cases."""

import itertools
import random

from fourthlike.books import Book
from fourthlike.errors import BadBook, BadNumber, BadRow, BadText, Misfit, NoCase, TooMany, Twice
from tests.helpers import NO_ITEMS, NO_LISTS, NO_NUMBERS, ODD_VALUES, Case, bent_texts
from tests.test_rules import NO_BIT_ROWS, all_rows, slow_adders, slow_sum

NO_BOOKS = ODD_VALUES + (0, "", "2 :", [], (2, ()), [2, [((0, 0), 0)]])
NO_OUTCOMES = ODD_VALUES + (2, -1, "0", "1", [0], (1,), "", 0.0, 10 ** 30)


def some_books(many, places=(1, 6), cases=(0, 16), seed=1, wrong=0.3):
    """Books by chance; each case is wrong by some adder with this chance."""
    chance = random.Random(seed)
    found = []
    for _ in range(many):
        number = chance.randint(*places)
        rows = all_rows(number)
        parts = chance.choice(slow_adders(number))
        often = chance.choice([0, 0, wrong])
        found.append(Book(number, [(row, slow_sum(parts, row) ^ (chance.random() < often))
                                   for row in chance.sample(rows, min(len(rows), chance.randint(*cases)))]))
    return found


def all_books(places):
    """All books of so many places with their rows ascending."""
    rows = all_rows(places)
    return [Book(places, [(row, outcome) for row, outcome in zip(rows, outcomes) if outcome is not None])
            for outcomes in itertools.product((None, 0, 1), repeat=len(rows))]


def can_stand(ahead, item):
    """Whether the item can stand in the text of a book behind those ahead."""
    if not ahead:
        return item in ("1", "2", "3", "4", "5", "6")
    if len(ahead) == 1:
        return item == ":"
    places = int(ahead[0])
    told = ahead[2:]
    at = len(told) % (places + 3)
    cases = [tuple(told[start:start + places]) for start in range(0, len(told) - at, places + 3)]
    if at < places - 1:
        return item in ("0", "1")
    if at == places - 1:
        return item in ("0", "1") and (*told[len(told) - at:], item) not in cases
    if at == places:
        return item == "="
    if at == places + 1:
        return item in ("0", "1")
    return item == "/" and len(cases) + 1 < 16


def can_end(items):
    return len(items) == 2 or len(items) > 2 and (len(items) - 1) % (int(items[0]) + 3) == 0


class BooksTest(Case):
    def test_attributes(self):
        book = Book(2, [[[0, 0], 0], [(0, 1), 1], ([1, 0], 1)])
        self.same(book.places, 2)
        self.same(book.cases, (((0, 0), 0), ((0, 1), 1), ((1, 0), 1)))
        self.same((book.rows, book.outcomes, len(book)), (((0, 0), (0, 1), (1, 0)), (0, 1, 1), 3))
        self.same((Book(6).cases, Book(1, []).rows, Book(1, ()).outcomes, len(Book(3))), ((), (), (), 0))
        self.same(Book(places=1, cases=[([1], 0), ([0], 0)]).rows, ((1,), (0,)))

    def test_wrong_places(self):
        for places in (0, 7, -1, 10 ** 30, 2.0, "2") + NO_NUMBERS:
            self.raised(BadNumber("places"), Book, places)
            self.raised(BadNumber("places"), Book, places, None)
        for places in range(1, 7):
            self.same(Book(places).places, places)

    def test_wrong_cases(self):
        good = [((0, 0), 0), ((0, 0), 1)]
        for cases in NO_LISTS + ("", "ab", {((0, 0), 0): 1}, [None], ["ab"], [[(0, 0)]], [((0, 0), 0, 0)], ((0, 0), 0),
                                 [(0, 0)], [{0: 0, 1: 1}]):
            self.raised(BadBook("cases"), Book, 2, cases)
        for row in NO_BIT_ROWS + ([], [0], (0, 0, 1)):
            self.raised(BadBook("cases"), Book, 2, good + [(row, 0)])
            self.raised(BadBook("cases"), Book, 2, [[row, 0]] + good)
        for outcome in NO_OUTCOMES:
            self.raised(BadBook("cases"), Book, 2, good + [((0, 1), outcome)])
            self.raised(BadBook("cases"), Book, 2, [[[1, 1], outcome]] + good)
        self.raised(BadBook("cases"), Book, 1, [((0,), 0)] * 20 + [None])

    def test_rows_twice(self):
        self.raised(Twice((0, 1)), Book, 2, [([1, 1], 0), ([0, 1], 0), ([0, 1], 1), ((1, 1), 0)])
        self.raised(Twice((1, 1)), Book, 2, [([1, 1], 0), ([1, 1], 0)])
        rows = all_rows(5)[:17]
        self.raised(Twice(rows[3]), Book, 5, [(row, 0) for row in rows + [list(rows[3])]])

    def test_16_cases_and_17(self):
        for places in (5, 6):
            rows = all_rows(places)
            self.assertEqual(len(Book(places, [(row, 1) for row in rows[:16]])), 16)
            self.raised(TooMany("cases", 16), Book, places, [(row, 1) for row in rows[:17]])
            self.raised(TooMany("cases", 16), Book, places, [(row, 1) for row in rows])
        book = Book(5, [(row, 1) for row in all_rows(5)[:16]])
        self.raised(TooMany("cases", 16), book.with_case, (1, 1, 1, 1, 1), 0)
        self.raised(Twice((0, 0, 0, 0, 0)), book.with_case, [0] * 5, 0)
        self.assertEqual(len(Book(4, [(row, 0) for row in all_rows(4)])), 16)

    def test_with_case(self):
        book = Book(2, [((1, 0), 1)])
        self.assertEqual(book.with_case([0, 0], 0), Book(2, [((1, 0), 1), ((0, 0), 0)]))
        self.assertEqual(len(book), 1)
        for row in NO_BIT_ROWS:
            self.raised(BadRow("row"), book.with_case, row, 0)
            self.raised(BadRow("row"), book.with_case, row, 2)
        for outcome in NO_OUTCOMES:
            self.raised(BadNumber("outcome"), book.with_case, [0, 1], outcome)
            self.raised(BadNumber("outcome"), book.with_case, [0], outcome)
            self.raised(BadNumber("outcome"), book.with_case, [1, 0], outcome)
        for row in ([], [0], (0, 1, 1)):
            self.raised(Misfit("places"), book.with_case, row, 0)
        self.raised(Twice((1, 0)), book.with_case, [1, 0], 1)
        self.raised(Twice((1, 0)), book.with_case, (1, 0), 0)

    def test_without(self):
        for book in some_books(20, (2, 4), (3, 8)):
            for numbers in itertools.chain(*[itertools.permutations(range(len(book)), many) for many in (0, 1, 2, 3)]):
                left = [case for number, case in enumerate(book.cases) if number not in numbers]
                self.assertEqual(book.without(list(numbers)), Book(book.places, left))
        book = Book(2, [((0, 0), 0), ((0, 1), 1)])
        for numbers in NO_LISTS + ("", "0", {0: 1}):
            self.raised(BadNumber("numbers"), book.without, numbers)
        for number in ODD_VALUES + (2, -1, 10 ** 30, "0", [0], (1,), 0.0):
            self.raised(NoCase(number), book.without, [number])
            self.raised(NoCase(number), book.without, (1, 1, number, 9))
            self.raised(NoCase(number), book.without, [0, number])
        self.raised(Twice(1), book.without, [0, 1, 1, 0])
        self.raised(Twice(0), book.without, (0, 0))

    def test_what_is_passed_is_copied(self):
        cases = [[[0, 1], 0]]
        book = Book(2, cases)
        cases[0][0].reverse()
        cases.append([[1, 1], 0])
        self.same(book.cases, (((0, 1), 0),))

    def test_equality(self):
        books = all_books(1) + all_books(2)
        for one, other in itertools.product(books, repeat=2):
            self.assertIs(one == other, str(one) == str(other))
        self.assertNotEqual(Book(1, [((0,), 0), ((1,), 0)]), Book(1, [((1,), 0), ((0,), 0)]))
        for value in NO_BOOKS + (books[0].cases, "1 :"):
            self.assertFalse(books[0] == value)

    def test_texts(self):
        for book in some_books(100) + all_books(2):
            text = "%d :" % book.places + " /".join(
                "".join(" %d" % bit for bit in row) + " = %d" % outcome for row, outcome in book.cases)
            self.same(str(book), text)
            self.assertEqual(Book.read(text), book)
        self.same((str(Book(3)), Book.read("6 :").places), ("3 :", 6))

    def test_texts_bent_at_each_item(self):
        few = [Book(1, [((1,), 0), ((0,), 0)]), Book(2, [((0, 1), 1), ((1, 1), 0)])]
        for book in some_books(6, (1, 3), (0, 4), 5) + few:
            for bent in bent_texts(str(book), NO_ITEMS + ("0", "1", "2", "3", "6", "7", ":", "/", "=", "00", "a")):
                self.reads(Book.read, bent, can_stand, can_end, lambda items: True)
        for book in some_books(2, (4, 6), (16, 16), 6):
            for bent in bent_texts(str(book), ("", "0", "1", "/")):
                self.reads(Book.read, bent, can_stand, can_end, lambda items: True)

    def test_bent_texts(self):
        for text, item in [
                ("", 0), ("0 :", 0), ("7 :", 0), ("2", 1), ("2 ", 1), ("2 : ", 2), ("2 : 0", 3), ("2 : 0 1", 4),
                ("2 : 0 1 =", 5), ("2 : 0 1 = 2", 5), ("2 : 0 1 = 1 /", 7), ("2 : 0 1 = 1 / 0 1 = 0", 8), ("2 : /", 2),
                ("2 : 0 1 = 1 / 0 1", 8), ("2 : 0 1 = 1 / 0", 8), ("2 : 0 1 = 1 0", 6), ("2 : 0 1 1", 4),
                ("2 : 01 = 1", 2),
                ("1 : 0 = 1 / 1 = 0", None), ("1 : 0 = 1 / 1 = 0 /", 10), ("1 : 0 = 1 / 1 = 0 / 0", 10),
                ("1 : 0 = 1 / 1 = 0 / 2", 10), ("1 : 0 = 1 / 1 = 0 / 1 = 1", 10), ("1 : 0 = 1 / 0 = 1", 6)]:
            if item is None:
                self.same(str(Book.read(text)), text)
            else:
                self.raised(BadText(0, item), Book.read, text)

    def test_a_17th_case(self):
        for places in (5, 6):
            rows = [" ".join(map(str, row)) + " = 1" for row in all_rows(places)]
            text = "%d : " % places + " / ".join(rows[:16])
            self.assertEqual(len(Book.read(text)), 16)
            many = len(text.split(" "))
            for more in (" /", " / " + rows[16], " / " + rows[0], " 0", " ", " / x"):
                self.raised(BadText(0, many), Book.read, text + more)
            short = "%d : " % places + " / ".join(rows[:15]) + " /"
            self.raised(BadText(0, len(short.split(" "))), Book.read, short)

    def test_what_is_no_string(self):
        for value in ODD_VALUES + (1, ["1", ":"], Book(1)):
            self.raised(BadText(0, 0), Book.read, value)
