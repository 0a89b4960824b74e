"""Terms."""

from fourthlike.checks import is_list, is_name
from fourthlike.errors import BadTerm, TooMany
from fourthlike.trees import MOST_HEADS, MOST_PARTS, items_of_tree, read_tree


class Term:
    """A term with a head and up to three parts."""

    def __init__(self, head, parts=()):
        if not is_name(head):
            raise BadTerm("head")
        if not is_list(parts) or len(parts) > MOST_PARTS or not all([isinstance(part, Term) for part in parts]):
            raise BadTerm("parts")
        size = 1 + sum([part.size for part in parts])
        if size > MOST_HEADS:
            raise TooMany("heads", MOST_HEADS)
        self.head = head
        self.parts = tuple(parts)
        self.size = size
        self.depth = 1 + max([part.depth for part in parts], default=0)

    def __eq__(self, other):
        return isinstance(other, Term) and self.head == other.head and self.parts == other.parts

    def __str__(self):
        return " ".join(items_of_tree(tree_of_term(self)))

    @staticmethod
    def read(text):
        """The term whose text this is."""
        tree, _ = read_tree(text, False)
        return term_of_tree(tree)


def tree_of_term(term):
    """The term as a tree."""
    return (term.head, *[tree_of_term(part) for part in term.parts])


def term_of_tree(tree):
    """The term that is this tree, which has no holes."""
    return Term(tree[0], [term_of_tree(part) for part in tree[1:]])


def need_terms(named):
    """Raises BadTerm for the first of the pairs (parameter, value) that is no Term."""
    for part, term in named:
        if not isinstance(term, Term):
            raise BadTerm(part)


def are_headed_alike(one, other):
    """Whether the heads of two terms are equal and they have as many parts."""
    return one.head == other.head and len(one.parts) == len(other.parts)


def inner_of(term):
    """The list of the inner terms."""
    return [term] + [inner for part in term.parts for inner in inner_of(part)]


def inner_terms(term):
    """The tuple of the inner terms, in the order in which their heads stand in the text."""
    need_terms([("term", term)])
    return tuple(inner_of(term))


def heads_of(term):
    """The tuple of the heads of the inner terms."""
    need_terms([("term", term)])
    return tuple([inner.head for inner in inner_of(term)])
