"""Whether lattices are distributive, and what shows it."""

from fourthlike.lattices import need_things_of_lattice
from fourthlike.papers import Denial, Paper


class Distributive(Paper):
    """For each thing of a lattice a set of names; meets are what sets share, joins what they have together."""

    def __init__(self, sets):
        Paper.__init__(self, "distributive", sets)
        self.sets = self.parts[0]


class Five(Denial):
    """Five things of a lattice that are a three or a pair."""

    def __init__(self, kind, names):
        Denial.__init__(self, "five", kind, names)
        self.kind, self.names = self.parts


def are_bound_by(lattice, one, other, low, high):
    """Whether two things have this meet and this join."""
    return lattice.meet(one, other) == low and lattice.join(one, other) == high


def is_three(lattice, five):
    """Whether the five things are a three."""
    p, q, r, s, t = five
    if q == r or q == s or r == s:
        return False
    return all([are_bound_by(lattice, one, other, p, t) for one, other in ((q, r), (q, s), (r, s))])


def is_pair(lattice, five):
    """Whether the five things are a pair."""
    p, q, r, s, t = five
    if q == r or not lattice.is_beneath(q, r):
        return False
    return are_bound_by(lattice, q, s, p, t) and are_bound_by(lattice, r, s, p, t)


def first_five(lattice):
    """The Five of the first three things that are the inner ones of five, None if there are none."""
    for q in lattice.names:
        for r in lattice.names:
            for s in lattice.names:
                five = (lattice.meet(q, s), q, r, s, lattice.join(q, s))
                if is_three(lattice, five):
                    return Five("three", five)
                if is_pair(lattice, five):
                    return Five("pair", five)
    return None


def is_bottom_piece(lattice, thing):
    """Whether the thing is not the least one, and no join of two others."""
    if thing == lattice.least:
        return False
    others = [name for name in lattice.names if name != thing]
    return all([lattice.join(one, other) != thing for one in others for other in others])


def distributive(lattice):
    """The Distributive with the bottom pieces of each thing, or a Five."""
    need_things_of_lattice(lattice, ())
    five = first_five(lattice)
    if five is not None:
        return five
    pieces = [name for name in lattice.names if is_bottom_piece(lattice, name)]
    return Distributive([[piece for piece in pieces if lattice.is_beneath(piece, name)] for name in lattice.names])
