"""Free lots of rows of bits.

A row is told as a number, a 1 and then its bits; then rows of an even lot add
up to the row of 0s just if their numbers, added bit by bit, give 0.
"""


def number_of_row(row):
    """The number that tells a row of bits."""
    number = 1
    for bit in row:
        number = 2 * number + bit
    return number


def numbers_in(lot):
    """The ascending tuple of the numbers of the bits of the lot that are 1."""
    return tuple([number for number in range(lot.bit_length()) if lot >> number & 1 == 1])


def left_over(number, leading):
    """What is left of the number when others are added as long as that makes it less, and the lot of rows added.

    The others are told by their bit lengths, each with its lot: a number whose bits tell which rows.
    """
    lot = 0
    while number.bit_length() in leading:
        other, rows = leading[number.bit_length()]
        number = number ^ other
        lot = lot ^ rows
    return number, lot


def lots_ahead(rows):
    """For each row the free odd lot of rows ahead whose sum it is, as ascending numbers; None if there is none.

    The rows with None are a greatest free lot, and all lots are of these alone; so each row has just one.
    """
    leading = {}
    found = []
    for at, row in enumerate(rows):
        number, lot = left_over(number_of_row(row), leading)
        if number == 0:
            found.append(numbers_in(lot))
        else:
            leading[number.bit_length()] = (number, lot ^ (1 << at))
            found.append(None)
    return found


def is_sum_of_free(row, rows):
    """Whether the rows, all together, are a free odd lot whose sum the row is."""
    return lots_ahead([*rows, row])[-1] == tuple(range(len(rows)))
