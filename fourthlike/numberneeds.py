"""What functions on numbers by a power need of what they are passed."""

from fourthlike.checks import is_within
from fourthlike.errors import BadNumber

LEAST_POWER = -80
MOST_POWER = 80
MOST_NUMBER = 1000000
MOST_SMALL = 99


def need_within(part, value, least, most):
    """Raises BadNumber unless the value is an integer from least to most."""
    if not is_within(value, least, most):
        raise BadNumber(part)


def need_numbers(named, most):
    """Raises BadNumber for the first of the pairs (parameter, value) that is not from 1 to most."""
    for part, value in named:
        need_within(part, value, 1, most)


def need_power(power):
    """Raises BadNumber unless this is a power."""
    need_within("power", power, LEAST_POWER, MOST_POWER)


def need_growing(a, b, c, d):
    """Raises BadNumber unless 0 < a < b <= c < d <= 99."""
    need_within("a", a, 1, MOST_SMALL)
    need_within("b", b, a + 1, MOST_SMALL)
    need_within("c", c, b, MOST_SMALL)
    need_within("d", d, c + 1, MOST_SMALL)
