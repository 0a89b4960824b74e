"""Chains of proportions, and whether they hold far."""

from fourthlike.checks import are_lists_of, is_word
from fourthlike.doings import is_by_names, is_by_places
from fourthlike.errors import BadNumber, BadRow
from fourthlike.layings import is_like_words
from fourthlike.likenesses import is_proportion
from fourthlike.nameneeds import is_one_of
from fourthlike.orders import Order
from fourthlike.papers import Denial, Paper
from fourthlike.rows import Row

KINDS = ("rows", "words", "places", "names")
LEAST_PAIRS = 2
MOST_PAIRS = 8


class Far(Paper):
    """The chain holds far."""

    def __init__(self):
        Paper.__init__(self, "far")


class Part(Denial):
    """The numbers of two pairs that are no proportion."""

    def __init__(self, one, other):
        Denial.__init__(self, "part", one, other)
        self.one, self.other = self.parts


def is_of_kind(kind, value):
    """Whether the value is a thing of this kind of chains."""
    if kind == "rows":
        return isinstance(value, Row)
    return is_word(value) if kind == "words" else isinstance(value, Order)


def are_like(kind, one, other):
    """Whether the one pair is to the other one a proportion of this kind."""
    a, b = one
    c, d = other
    if kind == "rows":
        return is_proportion(a, b, c, d)
    if kind == "words":
        return is_like_words(a, b, c, d)
    return is_by_places(a, b, c, d) if kind == "places" else is_by_names(a, b, c, d)


def need_pairs_of_kind(kind, pairs):
    """Raises an error unless these are a kind and 2 to 8 pairs of things of this kind."""
    if not is_one_of(kind, KINDS):
        raise BadNumber("kind")
    if not are_lists_of(pairs, 2) or not LEAST_PAIRS <= len(pairs) <= MOST_PAIRS:
        raise BadRow("pairs")
    if not all([is_of_kind(kind, value) for pair in pairs for value in pair]):
        raise BadRow("pairs")


def is_chain(kind, pairs):
    """Whether each pair is to the next one a proportion."""
    need_pairs_of_kind(kind, pairs)
    return all([are_like(kind, one, other) for one, other in zip(pairs, pairs[1:])])


def far(kind, pairs):
    """The Far of a chain that holds far, otherwise the Part of the least two numbers."""
    if not is_chain(kind, pairs):
        raise BadRow("chain")
    for at, one in enumerate(pairs):
        for behind in range(at + 1, len(pairs)):
            if not are_like(kind, one, pairs[behind]):
                return Part(at, behind)
    return Far()
