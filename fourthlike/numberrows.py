"""Rows of numbers by one power."""

from fourthlike.between import ByPower, power_of
from fourthlike.checks import is_list, is_within
from fourthlike.errors import BadNumber
from fourthlike.numberneeds import MOST_SMALL, need_numbers, need_power, need_within
from fourthlike.papers import Denial
from fourthlike.powersums import is_by_power, whole_fourth

LEAST_LONG = 3
MOST_LONG = 12


class Uneven(Denial):
    """The step of a row of numbers that is by no integer, or not by the power of step 0."""

    def __init__(self, step):
        Denial.__init__(self, "uneven", step)
        self.step = self.parts[0]


def numbers_by(first, second, many, power):
    """The tuple of first, second, and on by this power, as long as it goes, at most so many."""
    need_numbers([("first", first), ("second", second)], MOST_SMALL)
    need_within("many", many, 2, MOST_LONG)
    need_power(power)
    found = [first, second]
    while len(found) < many:
        number = whole_fourth(found[-2], found[-1], found[-1], power)
        if number is None:
            break
        found.append(number)
    return tuple(found)


def need_growing_row(numbers):
    """Raises BadNumber unless these are 3 to 12 growing integers from 1 to 99."""
    if not is_list(numbers) or not LEAST_LONG <= len(numbers) <= MOST_LONG:
        raise BadNumber("numbers")
    least = 1
    for number in numbers:
        if not is_within(number, least, MOST_SMALL):
            raise BadNumber("numbers")
        least = number + 1


def is_step_by(numbers, step, power):
    """Whether the step with this number is by the power."""
    x, y, z = numbers[step:step + 3]
    return is_by_power(x, y, y, z, power)


def power_of_row(numbers):
    """The ByPower of all steps, or the Uneven."""
    need_growing_row(numbers)
    found = power_of(numbers[0], numbers[1], numbers[1], numbers[2])
    if type(found) is not ByPower:
        return Uneven(0)
    for step in range(len(numbers) - 2):
        if not is_step_by(numbers, step, found.power):
            return Uneven(step)
    return found
