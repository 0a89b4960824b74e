"""Rests with which told fours hold, and unknowns that are the same."""

from math import gcd

from fourthlike.checks import are_lists_of, is_row, is_within
from fourthlike.errors import BadNumber, BadTold
from fourthlike.nameneeds import need_names
from fourthlike.numberneeds import need_within
from fourthlike.papers import Denial, Paper
from fourthlike.told import need_told, row_of
from fourthlike.weights import breaks_of, diagonal_of
from fourthlike.wholes import weights_making

LEAST_BY = 2
MOST_BY = 60


class AllUnlike(Paper):
    """For each pair of unknowns a Breaks that shows them unlike."""

    def __init__(self, papers):
        Paper.__init__(self, "allunlike", papers)
        self.papers = self.parts[0]


class Same(Denial):
    """Two unknowns that are the same, and whole weights that show it."""

    def __init__(self, one, other, weights):
        Denial.__init__(self, "same", one, other, weights)
        self.one, self.other, self.weights = self.parts


def sum_with(row, numbers):
    """The sum of the numbers, each times the integer of the row at its place."""
    return sum([one * number for one, number in zip(row, numbers)])


def are_rests(value, many, by):
    """Whether the value is a row of so many rests."""
    return is_row(value) and len(value) == many and all([is_within(one, 0, by - 1) for one in value])


def all_hold(told, rests, by):
    """Whether all told fours hold with these rests."""
    return all([sum_with(row_of(told, four), rests) % by == 0 for four in told.fours])


def keeps(told, rests, by):
    """Whether all told fours hold with these rests, one for each unknown."""
    need_told(told)
    need_within("by", by, LEAST_BY, None)
    if not are_rests(rests, len(told.names), by):
        raise BadNumber("rests")
    return all_hold(told, rests, by)


def many_rests(told, by):
    """With how many rows of rests all told fours hold.

    In each column of the diagonal a rest is free but for its number, so many times which it must give 0.
    """
    need_told(told)
    need_within("by", by, LEAST_BY, MOST_BY)
    many = 1
    for number in diagonal_of(told).numbers:
        many = many * gcd(number, by)
    return many


def need_pairs(told, pairs):
    """Raises an error unless these are a Told and pairs of its unknowns."""
    need_told(told)
    if not are_lists_of(pairs, 2):
        raise BadTold("pairs")
    for pair in pairs:
        need_names(told.names, pair)


def four_of_same(one, other):
    """The four that follows just if the two unknowns are the same."""
    return one, other, other, other


def parted(told, pairs):
    """The Same of the first pair whose two are the same, otherwise an AllUnlike."""
    need_pairs(told, pairs)
    diagonal = diagonal_of(told)
    papers = []
    for one, other in pairs:
        row = row_of(told, four_of_same(one, other))
        weights = weights_making(diagonal, len(told), row)
        if weights is not None:
            return Same(one, other, weights)
        papers.append(breaks_of(diagonal, row))
    return AllUnlike(papers)
