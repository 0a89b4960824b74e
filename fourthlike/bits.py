"""Rows of bits, and outcomes."""

from fourthlike.checks import is_list, is_within
from fourthlike.closings import fourth_places
from fourthlike.errors import BadRow, Misfit


def is_bit(value):
    """Whether the value is the integer 0 or 1."""
    return is_within(value, 0, 1)


def is_bits(value):
    """Whether the value is a row of bits, of any number of places."""
    return is_list(value) and all([is_bit(bit) for bit in value])


def is_bits_of(value, places):
    """Whether the value is a row of bits of so many places."""
    return is_bits(value) and len(value) == places


def need_bits(named, places):
    """Raises an error unless these pairs (parameter, value) tell rows of bits of so many places."""
    for part, row in named:
        if not is_bits(row):
            raise BadRow(part)
    if any([len(row) != places for _, row in named]):
        raise Misfit("places")


def all_bits(places):
    """The ascending list of all rows of bits of so many places."""
    rows = [()]
    for _ in range(places):
        rows = [row + (bit,) for row in rows for bit in (0, 1)]
    return rows


def fourth_outcome(one, other, third):
    """The fourth of three outcomes, None if they have none."""
    found = fourth_places((one,), (other,), (third,))
    return None if found is None else found[0]
