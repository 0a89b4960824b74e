"""Fourths of terms."""

from fourthlike.choices import chosen_trees, many_choices
from fourthlike.errors import TooMany
from fourthlike.papers import Denial, Paper
from fourthlike.patterns import Pattern, shared
from fourthlike.terms import inner_terms, need_terms
from fourthlike.trees import is_hole

MOST_HOLES = 4
MOST_FOURTHS = 400


class Bearing(Paper):
    """The patterns and fillings that bear a proportion."""

    def __init__(self, p, q, mine, its):
        Paper.__init__(self, "bearing", p, q, mine, its)
        self.p, self.q, self.mine, self.its = self.parts


class NoTerm(Denial):
    """A hole whose first term is no inner term; None if the terms cannot all be chosen."""

    def __init__(self, hole):
        Denial.__init__(self, "noterm", hole)
        self.hole = self.parts[0]


def renumbered(tree, numbers):
    """The tree with the number numbers[k] for each hole k."""
    if is_hole(tree):
        return numbers[tree]
    return (tree[0], *[renumbered(part, numbers) for part in tree[1:]])


def bearing_of(a, b, c, d):
    """The Bearing of a : b = c : d whose p is the shared pattern of a and c, or None."""
    need_terms([("a", a), ("b", b), ("c", c), ("d", d)])
    left = shared(a, c)
    right = shared(b, d)
    pairs = list(zip(left.mine, left.its))
    others = list(zip(right.mine, right.its))
    if len(pairs) != len(others) or any([pair not in pairs for pair in others]):
        return None
    q = Pattern(renumbered(right.pattern.tree, [pairs.index(pair) for pair in others]))
    return Bearing(left.pattern, q, left.mine, left.its)


def is_like_terms(a, b, c, d):
    """Whether a : b = c : d."""
    return bearing_of(a, b, c, d) is not None


def shared_for_fourth(a, b, c):
    """The Shared of a and c, which has few enough holes for the fourths to be listed."""
    need_terms([("a", a), ("b", b), ("c", c)])
    found = shared(a, c)
    if found.pattern.holes > MOST_HOLES:
        raise TooMany("holes", MOST_HOLES)
    return found


def many_term_fourths(a, b, c):
    """How many fourths there are, however many heads they have."""
    return many_choices(b, shared_for_fourth(a, b, c).mine)


def fourths_of_terms(a, b, c):
    """The tuple of the Bearings of all fourths, ascending by the texts of these."""
    left = shared_for_fourth(a, b, c)
    if many_choices(b, left.mine) > MOST_FOURTHS:
        raise TooMany("fourths", MOST_FOURTHS)
    patterns = [Pattern(tree) for tree in chosen_trees(b, left.mine)]
    texts = [str(q.filled(left.its)) for q in patterns]
    order = sorted([(text, number) for number, text in enumerate(texts)])
    return tuple([Bearing(left.pattern, patterns[number], left.mine, left.its) for _, number in order])


def no_term(a, b, c):
    """None if there is a fourth, otherwise the NoTerm of the least such hole, or of None."""
    firsts = shared_for_fourth(a, b, c).mine
    inner = inner_terms(b)
    for hole, first in enumerate(firsts):
        if first not in inner:
            return NoTerm(hole)
    return NoTerm(None) if many_choices(b, firsts) == 0 else None
