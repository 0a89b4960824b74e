"""Lots of numbers, gone through from the fewest numbers on."""

from itertools import combinations


def lots_below(many, least, most):
    """The list of all ascending tuples of least to most numbers below many: the shorter ones first, then the least."""
    return [lot for size in range(least, most + 1) for lot in combinations(range(many), size)]
