"""Whether papers on powers are right."""

from fourthlike.between import Between, ByPower
from fourthlike.checks import is_just, is_within
from fourthlike.numberneeds import LEAST_POWER, MOST_NUMBER, MOST_POWER, MOST_SMALL
from fourthlike.numberneeds import need_growing, need_numbers, need_power
from fourthlike.numberrows import power_of_row
from fourthlike.powers import NoWhole, Whole
from fourthlike.powersums import fourth_quotient, is_by_power, side_of, whole_sum


def shows_fourth_by(a, b, c, power, value):
    """Whether value is the right Whole or NoWhole."""
    need_numbers([("a", a), ("b", b), ("c", c)], MOST_SMALL)
    need_power(power)
    quotient = fourth_quotient(a, b, c, power)
    if type(value) is Whole:
        if quotient is None or not is_within(value.number, 1, MOST_NUMBER):
            return False
        return side_of(value.number, quotient) == 0
    if type(value) is not NoWhole:
        return False
    if quotient is None or not is_within(value.low, 0, MOST_NUMBER):
        return quotient is None and value.low is None
    return side_of(value.low, quotient) < 0 < side_of(value.low + 1, quotient)


def is_between(a, b, c, d, low):
    """Whether the power of these lies between low and low + 1, neither of them."""
    if a * d == b * c or (a * d < b * c) != (low >= 0):
        return False
    # At 0 the sum is 0, whether or not the power lies behind; the side above tells that.
    near, far = (low, low + 1) if low >= 0 else (low + 1, low)
    return (near == 0 or whole_sum(a, b, c, d, near) < 0) and whole_sum(a, b, c, d, far) > 0


def shows_power(a, b, c, d, value):
    """Whether value is the right ByPower or Between."""
    need_growing(a, b, c, d)
    if type(value) is ByPower:
        return is_within(value.power, LEAST_POWER, MOST_POWER) and is_by_power(a, b, c, d, value.power)
    if type(value) is not Between or not is_within(value.low, LEAST_POWER, MOST_POWER - 1):
        return False
    return is_between(a, b, c, d, value.low)


def shows_power_of_row(numbers, value):
    """Whether value is the right ByPower or Uneven."""
    found = power_of_row(numbers)
    return type(value) is type(found) and is_just(value.parts, found.parts)
