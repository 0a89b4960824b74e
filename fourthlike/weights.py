"""What follows from told fours: whole weights that show it, rests that break it."""

from math import gcd, lcm

from fourthlike.papers import Denial, Paper
from fourthlike.sublots import lots_below
from fourthlike.told import need_told_and_four, row_of
from fourthlike.wholes import Diagonal, images_of, is_made, weights_making


class Follows(Paper):
    """Whole weights that make the row of a four."""

    def __init__(self, weights):
        Paper.__init__(self, "follows", weights)
        self.weights = self.parts[0]


class Breaks(Denial):
    """Rests that keep all told fours, and not the asked one."""

    def __init__(self, rests, by):
        Denial.__init__(self, "breaks", rests, by)
        self.rests, self.by = self.parts


class Times(Paper):
    """The times of a four, and whole weights that make so many times its row."""

    def __init__(self, number, weights):
        Paper.__init__(self, "times", number, weights)
        self.number, self.weights = self.parts


class Never(Denial):
    """Whole numbers with which all told fours hold, and not the asked one."""

    def __init__(self, numbers):
        Denial.__init__(self, "never", numbers)
        self.numbers = self.parts[0]


class Needed(Paper):
    """The numbers of the fewest told fours that make a four follow, and whole weights for these."""

    def __init__(self, numbers, weights):
        Paper.__init__(self, "needed", numbers, weights)
        self.numbers, self.weights = self.parts


def diagonal_of(told):
    """The rows of the told fours, brought to a diagonal."""
    return Diagonal([row_of(told, four) for four in told.fours], len(told.names))


def weights_of(told, numbers, row):
    """Whole weights of the told fours with these numbers that make the row, None if there are none."""
    rows = [row_of(told, told.fours[number]) for number in numbers]
    return weights_making(Diagonal(rows, len(told.names)), len(rows), row)


def least_not_dividing(number):
    """The least integer from 2 on of which the number, not 0, is no whole number of times."""
    by = 2
    while number % by == 0:
        by += 1
    return by


def breaks_of(diagonal, row):
    """The Breaks of a row that no whole weights make.

    In each column of the diagonal the told fours are so many times its number, the row is not in some.
    """
    images = images_of(diagonal, row)
    at = [one for one, image in enumerate(images) if not is_made(diagonal.numbers[one], image)][0]
    number = abs(diagonal.numbers[at])
    by = least_not_dividing(images[at]) if number == 0 else number
    return Breaks([one % by for one in diagonal.columns[at]], by)


def follows(told, four):
    """A Follows of a four that follows, otherwise a Breaks."""
    need_told_and_four(told, four)
    diagonal = diagonal_of(told)
    weights = weights_making(diagonal, len(told), row_of(told, four))
    return breaks_of(diagonal, row_of(told, four)) if weights is None else Follows(weights)


def least_times(diagonal, row):
    """The least number from 1 on so many times which the row is made, None if there is none."""
    number = 1
    for one, image in zip(diagonal.numbers, images_of(diagonal, row)):
        if image != 0 and one == 0:
            return None
        if image != 0:
            number = lcm(number, abs(one) // gcd(one, image))
    return number


def never_of(diagonal, row):
    """The Never of a row that is made no number of times."""
    images = images_of(diagonal, row)
    found = [at for at, image in enumerate(images) if image != 0 and diagonal.numbers[at] == 0]
    return Never(diagonal.columns[found[0]])


def times_of(told, four):
    """The Times of a four, otherwise a Never."""
    need_told_and_four(told, four)
    diagonal = diagonal_of(told)
    row = row_of(told, four)
    number = least_times(diagonal, row)
    if number is None:
        return never_of(diagonal, row)
    return Times(number, weights_making(diagonal, len(told), [number * one for one in row]))


def fewest_told(told, four):
    """The Needed of the fewest told fours, of equally few the least; a Breaks of a four that does not follow."""
    need_told_and_four(told, four)
    row = row_of(told, four)
    for numbers in lots_below(len(told), 0, len(told)):
        weights = weights_of(told, numbers, row)
        if weights is not None:
            return Needed(numbers, weights)
    return breaks_of(diagonal_of(told), row)
