"""Numbers by a power: signs of sums, proportions, fourths."""

from fourthlike.numberneeds import MOST_NUMBER, MOST_SMALL, need_numbers, need_power
from fourthlike.papers import Denial, Paper
from fourthlike.powersums import fourth_quotient, is_by_power, side_of, whole_below, whole_sum


class Whole(Paper):
    """The fourth by a power."""

    def __init__(self, number):
        Paper.__init__(self, "whole", number)
        self.number = self.parts[0]


class NoWhole(Denial):
    """The real fourth lies between low and low + 1; None if there is none."""

    def __init__(self, low):
        Denial.__init__(self, "nowhole", low)
        self.low = self.parts[0]


def sign_at(a, b, c, d, power):
    """-1, 0 or 1, as the sum at this power is below 0, 0, or above 0."""
    need_numbers([("a", a), ("b", b), ("c", c), ("d", d)], MOST_NUMBER)
    need_power(power)
    found = whole_sum(a, b, c, d, power)
    if found == 0:
        return 0
    return 1 if found > 0 else -1


def is_by(a, b, c, d, power):
    """Whether a : b = c : d by this power."""
    need_numbers([("a", a), ("b", b), ("c", c), ("d", d)], MOST_NUMBER)
    need_power(power)
    return is_by_power(a, b, c, d, power)


def fourth_by(a, b, c, power):
    """The Whole of the fourth by this power, or the NoWhole."""
    need_numbers([("a", a), ("b", b), ("c", c)], MOST_SMALL)
    need_power(power)
    quotient = fourth_quotient(a, b, c, power)
    if quotient is None:
        return NoWhole(None)
    low = whole_below(quotient)
    return Whole(low) if side_of(low, quotient) == 0 else NoWhole(low)
