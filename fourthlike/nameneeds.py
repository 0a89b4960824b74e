"""What functions need of the names that they are passed."""

from fourthlike.checks import first_twice
from fourthlike.errors import NoName, NoThing, Twice


def need_once(values):
    """Raises Twice for the first of the integers, strings or rows of bits that equals one ahead of it."""
    value = first_twice(values)
    if value is not None:
        raise Twice(value)


def is_one_of(value, names):
    """Whether the value, any value, is one of these names."""
    return isinstance(value, str) and value in names


def need_things(names, values):
    """Raises NoThing for the first of the values that is none of these things."""
    for value in values:
        if not is_one_of(value, names):
            raise NoThing(value)


def need_names(names, values):
    """Raises NoName for the first of the values that is none of these names."""
    for value in values:
        if not is_one_of(value, names):
            raise NoName(value)
