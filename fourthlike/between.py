"""The power of four growing integers."""

from fourthlike.numberneeds import need_growing
from fourthlike.papers import Denial, Paper
from fourthlike.powersums import whole_sum


class ByPower(Paper):
    """The power of four integers."""

    def __init__(self, power):
        Paper.__init__(self, "bypower", power)
        self.power = self.parts[0]


class Between(Denial):
    """The power is no integer, and lies between low and low + 1."""

    def __init__(self, low):
        Denial.__init__(self, "between", low)
        self.low = self.parts[0]


def power_of(a, b, c, d):
    """The ByPower or the Between of four growing integers."""
    need_growing(a, b, c, d)
    if a * d == b * c:
        return ByPower(0)
    # Between 0 and the power the sum is below 0, and the power is above 0 just if a d is less than b c.
    way = 1 if a * d < b * c else -1
    power = way
    found = whole_sum(a, b, c, d, power)
    while found < 0:
        power = power + way
        found = whole_sum(a, b, c, d, power)
    if found == 0:
        return ByPower(power)
    return Between(power - 1 if way == 1 else power)
