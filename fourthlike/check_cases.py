"""Whether papers on books of cases are right."""

from fourthlike.answers import Fits, Forced, Open, Quarrel, quarrel_of, sum_of_outcomes, wrong_cases
from fourthlike.bits import fourth_outcome, is_bits_of
from fourthlike.books import need_book, need_book_and_row
from fourthlike.checks import are_ascending, is_just
from fourthlike.closings import fourth_places
from fourthlike.freelots import is_sum_of_free
from fourthlike.likely import MOST_PLACES, Clash, Likely, rows_by_fourths, rows_given_both, turns_of
from fourthlike.rules import is_adder_below, sum_at
from fourthlike.struck import Struck, fewest_wrong


def is_fitting(book, value):
    """Whether the value is an adder that fits the book."""
    return is_adder_below(value, book.places - 1) and len(wrong_cases(book, value)) == 0


def is_quarrel(book, numbers):
    """Whether the value has the numbers of a quarrel of the book."""
    if not are_ascending(numbers, len(book) - 1) or sum_of_outcomes(book, numbers) != 1:
        return False
    rows = [book.rows[number] for number in numbers]
    # Each row is the sum of all the others then, just as the last one is; so each lesser lot is free.
    return is_sum_of_free(rows[-1], rows[:-1])


def shows_fits(book, value):
    """Whether value is a Fits of an adder that fits, or a Quarrel of the book."""
    need_book(book)
    if type(value) is Fits:
        return is_fitting(book, value.adder)
    return type(value) is Quarrel and is_quarrel(book, value.numbers)


def is_free_lot_to(book, row, numbers):
    """Whether the value has the numbers of a free odd lot of the book whose rows add up to this one."""
    if not are_ascending(numbers, len(book) - 1):
        return False
    return is_sum_of_free(row, [book.rows[number] for number in numbers])


def shows_word(book, row, value):
    """Whether value is a right Forced or Open of the row."""
    need_book_and_row(book, row)
    if type(value) is Open:
        if not is_fitting(book, value.one) or not is_fitting(book, value.other):
            return False
        return sum_at(value.one, row) == 0 and sum_at(value.other, row) == 1
    if type(value) is not Forced or quarrel_of(book) is not None or not is_free_lot_to(book, row, value.numbers):
        return False
    return is_just(value.outcome, sum_of_outcomes(book, value.numbers))


def gives(stands, three, row, outcome):
    """Whether the value is three rows that stand, and that give the row this outcome."""
    if not isinstance(three, tuple) or len(three) != 3:
        return False
    if not all([is_bits_of(one, len(row)) and one in stands for one in three]):
        return False
    a, b, c = three
    return fourth_places(a, b, c) == row and fourth_outcome(stands[a], stands[b], stands[c]) == outcome


def is_right_likely(turns, value):
    """Whether the value has a right triple for each row that gets an outcome in these turns."""
    found = rows_by_fourths(turns)
    if not isinstance(value, tuple) or len(value) != len(found):
        return False
    for told, (row, outcome, number) in zip(value, found):
        if not isinstance(told, tuple) or len(told) != 3 or not is_just(told[:2], (row, outcome)):
            return False
        if not gives(turns[number][0], told[2], row, outcome):
            return False
    return True


def is_right_clash(stands, places, clash):
    """Whether the threes of rows that stand give the row both outcomes."""
    if not is_bits_of(clash.row, places):
        return False
    return gives(stands, clash.one, clash.row, 0) and gives(stands, clash.other, clash.row, 1)


def shows_likely(book, value):
    """Whether value is the Likely, or a Clash in the first turn that clashes, with any right threes."""
    need_book(book)
    if book.places > MOST_PLACES:
        return False
    turns = turns_of(book)
    if type(value) is Clash:
        return is_right_clash(turns[-1][0], book.places, value)
    return type(value) is Likely and len(rows_given_both(turns[-1][1])) == 0 and is_right_likely(turns, value.rows)


def shows_struck(book, value):
    """Whether value is a Struck of fewest cases."""
    need_book(book)
    if type(value) is not Struck or not are_ascending(value.numbers, len(book) - 1):
        return False
    if not is_adder_below(value.adder, book.places - 1) or wrong_cases(book, value.adder) != value.numbers:
        return False
    return len(value.numbers) == len(fewest_wrong(book)[0])
