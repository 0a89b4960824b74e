"""Sums at a power, and fourths by a power, in whole numbers of any size."""


def raised(number, times):
    """The number times itself so many times."""
    found = 1
    while times > 0:
        if times & 1:
            found = found * number
        number = number * number
        times = times >> 1
    return found


def whole_sum(a, b, c, d, power):
    """The sum of a, b, c, d at the power; below 0 that sum times (a b c d) ** -power.

    So it is a whole number, with the sign of the sum.
    """
    if power < 0:
        return whole_sum(b * c * d, a * c * d, a * b * d, a * b * c, -power)
    return raised(a, power) + raised(d, power) - raised(b, power) - raised(c, power)


def is_by_power(a, b, c, d, power):
    """Whether a : b = c : d by this power."""
    if power == 0:
        return a * d == b * c
    return whole_sum(a, b, c, d, power) == 0


def fourth_quotient(a, b, c, power):
    """The triple (times, top, bottom) of the real fourth d: d ** times is top / bottom.

    times, top and bottom are above 0. None if there is no real fourth above 0.
    """
    if power == 0:
        return 1, b * c, a
    if power > 0:
        times, top, bottom = power, raised(b, power) + raised(c, power) - raised(a, power), 1
    else:
        times, top = -power, raised(a * b * c, -power)
        bottom = raised(a * c, times) + raised(a * b, times) - raised(b * c, times)
    return (times, top, bottom) if top > 0 and bottom > 0 else None


def side_of(number, quotient):
    """Below 0, 0 or above 0, as the number from 0 on is less than that real fourth, it, or greater."""
    times, top, bottom = quotient
    return raised(number, times) * bottom - top


def whole_below(quotient):
    """The greatest integer from 0 on that is not greater than that real fourth."""
    high = 1
    while side_of(high, quotient) <= 0:
        high = high * 2
    low = high // 2
    while high - low > 1:
        middle = (low + high) // 2
        if side_of(middle, quotient) <= 0:
            low = middle
        else:
            high = middle
    return low


def whole_fourth(a, b, c, power):
    """The integer d from 1 on with a : b = c : d by this power, None if there is none."""
    quotient = fourth_quotient(a, b, c, power)
    if quotient is None:
        return None
    low = whole_below(quotient)
    return low if side_of(low, quotient) == 0 else None
