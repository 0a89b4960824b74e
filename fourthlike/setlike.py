"""Proportions and fourths of sets of names."""

from fourthlike.checks import first_twice, is_list, is_name
from fourthlike.errors import BadRow
from fourthlike.nameneeds import need_once
from fourthlike.papers import Denial, Paper


class FourthSet(Paper):
    """The one fourth of three sets."""

    def __init__(self, names):
        Paper.__init__(self, "fourthset", names)
        self.names = self.parts[0]


class Outside(Denial):
    """A name that b and c share and a lacks, or that a has and neither b nor c."""

    def __init__(self, name):
        Denial.__init__(self, "outside", name)
        self.name = self.parts[0]


def are_set_names(value):
    """Whether the value is a list of names, perhaps none."""
    return is_list(value) and all([is_name(name) for name in value])


def is_set(value):
    """Whether the value is a set: a list of different names."""
    return are_set_names(value) and first_twice(value) is None


def need_sets(named):
    """Raises an error unless these pairs (parameter, value) tell sets."""
    for part, names in named:
        if not are_set_names(names):
            raise BadRow(part)
        need_once(names)


def are_alike(a, b, c, d):
    """Whether a : b = c : d for these sets."""
    return set(a) & set(d) == set(b) & set(c) and set(a) | set(d) == set(b) | set(c)


def names_outside(a, b, c):
    """The names that b and c share and a lacks, and those that a has and neither b nor c."""
    return sorted(set(b) & set(c) - set(a)) + sorted(set(a) - set(b) - set(c))


def is_like_sets(a, b, c, d):
    """Whether a : b = c : d."""
    need_sets([("a", a), ("b", b), ("c", c), ("d", d)])
    return are_alike(a, b, c, d)


def fourth_set(a, b, c):
    """The FourthSet of three sets, or the Outside of the least name."""
    need_sets([("a", a), ("b", b), ("c", c)])
    outside = names_outside(a, b, c)
    if len(outside) > 0:
        return Outside(min(outside))
    return FourthSet(sorted(set(b) & set(c) | set(b) - set(a) | set(c) - set(a)))
