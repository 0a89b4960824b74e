"""Patterns, and the shared pattern of two terms."""

from fourthlike.checks import is_list
from fourthlike.errors import BadPattern, BadTerm, BadText, TooMany
from fourthlike.papers import Paper, fixed
from fourthlike.terms import Term, are_headed_alike, need_terms, tree_of_term
from fourthlike.trees import MOST_HEADS, holes_in, is_hole, is_tree, items_of_tree, read_tree, size_of


def lacks_hole(holes):
    """Whether a number is left out below one of these."""
    return sorted(set(holes)) != list(range(len(set(holes))))


class Pattern:
    """A pattern: a term in which holes may stand."""

    def __init__(self, tree):
        if not is_tree(tree):
            raise BadPattern("tree")
        holes = holes_in(tree)
        if lacks_hole(holes):
            raise BadPattern("holes")
        size = size_of(tree)
        if size > MOST_HEADS:
            raise TooMany("heads", MOST_HEADS)
        self.tree = fixed(tree)
        self.holes = len(set(holes))
        self.size = size

    def __eq__(self, other):
        return isinstance(other, Pattern) and self.tree == other.tree

    def __str__(self):
        return " ".join(items_of_tree(self.tree))

    @staticmethod
    def read(text):
        """The pattern whose text this is."""
        tree, many = read_tree(text, True)
        if lacks_hole(holes_in(tree)):
            raise BadText(0, many - 1)
        return Pattern(tree)

    @staticmethod
    def of(term):
        """The term as a pattern without holes."""
        need_terms([("term", term)])
        return Pattern(tree_of_term(term))

    def filled(self, filling):
        """The term that has term k of the filling wherever hole k stands."""
        if not is_list(filling) or len(filling) != self.holes:
            raise BadTerm("filling")
        if not all([isinstance(term, Term) for term in filling]):
            raise BadTerm("filling")
        return filled_tree(self.tree, filling)

    def covers(self, term):
        """The filling that makes it this term, None if there is none."""
        need_terms([("term", term)])
        found = {}
        if not is_covered(self.tree, term, found):
            return None
        return tuple([found[hole] for hole in range(self.holes)])


class Shared(Paper):
    """The shared pattern of two terms, and the fillings that make it the one and the other."""

    def __init__(self, pattern, mine, its):
        Paper.__init__(self, "shared", pattern, mine, its)
        self.pattern, self.mine, self.its = self.parts


def filled_tree(tree, filling):
    """The term that the tree becomes by the filling."""
    if is_hole(tree):
        return filling[tree]
    return Term(tree[0], [filled_tree(part, filling) for part in tree[1:]])


def is_covered(tree, term, found):
    """Whether the tree can be made this term, with the terms that are found for its holes so far.

    It puts into found what stands for each hole that it meets.
    """
    if is_hole(tree):
        return found.setdefault(tree, term) == term
    if tree[0] != term.head or len(tree) - 1 != len(term.parts):
        return False
    return all([is_covered(part, inner, found) for part, inner in zip(tree[1:], term.parts)])


def shared_tree(one, other, pairs):
    """The shared pattern of two terms as a tree; it puts the pairs of its holes into pairs."""
    if are_headed_alike(one, other):
        return (one.head, *[shared_tree(mine, its, pairs) for mine, its in zip(one.parts, other.parts)])
    pair = (one, other)
    if pair not in pairs:
        pairs.append(pair)
    return pairs.index(pair)


def shared(one, other):
    """The Shared of the shared pattern of two terms."""
    need_terms([("one", one), ("other", other)])
    pairs = []
    tree = shared_tree(one, other, pairs)
    return Shared(Pattern(tree), [mine for mine, _ in pairs], [its for _, its in pairs])
