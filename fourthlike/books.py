"""Books of cases."""

from fourthlike.bits import is_bit, is_bits, is_bits_of, need_bits
from fourthlike.checks import are_lists_of, is_list, is_within
from fourthlike.errors import BadBook, BadNumber, BadRow, BadText, Misfit, NoCase, TooMany
from fourthlike.nameneeds import need_once
from fourthlike.texts import behind_sign, items_of, need_sign, number_at, with_sign_between

MOST_PLACES = 6
MOST_CASES = 16


class Book:
    """A book of cases: rows of bits, each with its outcome."""

    def __init__(self, places, cases=()):
        if not is_within(places, 1, MOST_PLACES):
            raise BadNumber("places")
        if not are_lists_of(cases, 2):
            raise BadBook("cases")
        if not all([is_bits_of(row, places) and is_bit(outcome) for row, outcome in cases]):
            raise BadBook("cases")
        rows = [tuple(row) for row, _ in cases]
        need_once(rows)
        if len(rows) > MOST_CASES:
            raise TooMany("cases", MOST_CASES)
        self.places = places
        self.rows = tuple(rows)
        self.outcomes = tuple([outcome for _, outcome in cases])
        self.cases = tuple([(row, outcome) for row, outcome in zip(self.rows, self.outcomes)])

    def __len__(self):
        return len(self.cases)

    def __eq__(self, other):
        return isinstance(other, Book) and self.places == other.places and self.cases == other.cases

    def __str__(self):
        return " ".join([str(self.places), ":", *with_sign_between(items_of_cases(self.cases), "/")])

    def with_case(self, row, outcome):
        """The book with this case behind the others."""
        if not is_bits(row):
            raise BadRow("row")
        if not is_bit(outcome):
            raise BadNumber("outcome")
        if len(row) != self.places:
            raise Misfit("places")
        return Book(self.places, [*self.cases, (row, outcome)])

    def without(self, numbers):
        """The book without the cases with these numbers."""
        if not is_list(numbers):
            raise BadNumber("numbers")
        for number in numbers:
            if not is_within(number, 0, len(self.cases) - 1):
                raise NoCase(number)
        need_once(numbers)
        return Book(self.places, [case for number, case in enumerate(self.cases) if number not in numbers])

    @staticmethod
    def read(text):
        """The book whose text this is."""
        items = items_of(text)
        places = number_at(items, 0, 1, MOST_PLACES)
        need_sign(items, 1, ":")
        return Book(places, cases_at(items, 2, places))


def items_of_cases(cases):
    """The items of the text of each of these cases."""
    return [[*[str(bit) for bit in row], "=", str(outcome)] for row, outcome in cases]


def row_at(items, at, places, ahead):
    """The row of so many bits that stands there, none of those ahead."""
    row = tuple([number_at(items, at + place, 0, 1) for place in range(places)])
    if row in ahead:
        raise BadText(0, at + places - 1)
    return row


def cases_at(items, at, places):
    """The list of the cases that stand there and behind, up to the end."""
    cases = []
    while at < len(items):
        if len(cases) == MOST_CASES:
            raise BadText(0, at)
        at = behind_sign(items, at, "/", len(cases))
        row = row_at(items, at, places, [one for one, _ in cases])
        need_sign(items, at + places, "=")
        cases.append((row, number_at(items, at + places + 1, 0, 1)))
        at += places + 2
    return cases


def need_book(book):
    """Raises BadBook unless this is a book."""
    if not isinstance(book, Book):
        raise BadBook("book")


def need_book_and_row(book, row):
    """Raises an error unless these are a book and a row of so many bits."""
    need_book(book)
    need_bits([("row", row)], book.places)
