"""Which rows must be asked until all outcomes are forced."""

from fourthlike.answers import need_possible
from fourthlike.bits import all_bits
from fourthlike.books import need_book, need_book_and_row
from fourthlike.freelots import lots_ahead


def free_cases(book):
    """The ascending numbers of the cases whose outcomes are not forced by those ahead."""
    need_book(book)
    need_possible(book)
    return tuple([number for number, lot in enumerate(lots_ahead(book.rows)) if lot is None])


def rows_to_ask(book):
    """The rows that must be asked until all are forced, each the least that is still open."""
    need_book(book)
    need_possible(book)
    rows = all_bits(book.places)
    lots = lots_ahead([*book.rows, *rows])[len(book):]
    return tuple([row for row, lot in zip(rows, lots) if lot is None])


def are_linked(book, row, other):
    """Whether both rows are open, and each, once asked, forces the other one.

    It is so just if the other row is a sum of free rows of which the row, asked ahead of it, is one.
    """
    lot = lots_ahead([*book.rows, row, other])[-1]
    return lot is not None and len(book) in lot


def instead_of(book, row):
    """The ascending tuple of the open rows each of which, once asked, forces the row, if that is open."""
    need_book_and_row(book, row)
    need_possible(book)
    return tuple([other for other in all_bits(book.places) if are_linked(book, row, other)])
