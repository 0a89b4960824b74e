"""Proportions and fourths of things of a lattice."""

from fourthlike.lattices import need_things_of_lattice
from fourthlike.papers import Denial


class Apart(Denial):
    """For each thing of a lattice where it fails as a fourth, at the meet or at the join."""

    def __init__(self, sides):
        Denial.__init__(self, "apart", sides)
        self.sides = self.parts[0]


def failing_sides(lattice, a, b, c, d):
    """The list of the sides at which d is no fourth of a, b, c."""
    sides = []
    if lattice.meet(a, d) != lattice.meet(b, c):
        sides.append("meet")
    if lattice.join(a, d) != lattice.join(b, c):
        sides.append("join")
    return sides


def is_like_things(lattice, a, b, c, d):
    """Whether a : b = c : d."""
    need_things_of_lattice(lattice, (a, b, c, d))
    return len(failing_sides(lattice, a, b, c, d)) == 0


def fourths_in(lattice, a, b, c):
    """The ascending tuple of the fourths."""
    need_things_of_lattice(lattice, (a, b, c))
    return tuple([d for d in lattice.names if len(failing_sides(lattice, a, b, c, d)) == 0])


def no_thing(lattice, a, b, c):
    """None if there is a fourth, otherwise the Apart."""
    if len(fourths_in(lattice, a, b, c)) > 0:
        return None
    return Apart([failing_sides(lattice, a, b, c, d)[0] for d in lattice.names])
