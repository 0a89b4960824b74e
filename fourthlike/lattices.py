"""Lattices: things of which each two have a meet and a join."""

from fourthlike.checks import are_lists_of, are_names
from fourthlike.errors import BadLattice, BadText, NoBound, Ring, TooMany
from fourthlike.nameneeds import need_once, need_things
from fourthlike.orderings import all_above, bounds, first_unbound, ring_of, steps_of, told_above, turned
from fourthlike.texts import ascending_names, behind_sign, items_of, need_sign, pair_at, with_sign_between

MOST_THINGS = 12


class Lattice:
    """A lattice of named things."""

    def __init__(self, names, pairs):
        need_names_and_pairs(names, pairs)
        told = told_above(names, pairs)
        ring = ring_of(told)
        if ring is not None:
            raise Ring(ring)
        above = all_above(told)
        beneath = turned(above)
        meets = bounds(beneath)
        joins = bounds(above)
        unbound = first_unbound(list(told), meets, joins)
        if unbound is not None:
            one, other, side = unbound
            raise NoBound(one, other, side)
        self.names = tuple(told)
        self.steps = steps_of(self.names, beneath)
        self.least = [name for name in self.names if len(above[name]) == len(names)][0]
        self.greatest = [name for name in self.names if len(beneath[name]) == len(names)][0]
        self._beneath = beneath
        self._meets = meets
        self._joins = joins

    def __len__(self):
        return len(self.names)

    def __eq__(self, other):
        return isinstance(other, Lattice) and self.names == other.names and self.steps == other.steps

    def __str__(self):
        return " ".join([*self.names, ":", *with_sign_between(self.steps, "/")])

    def is_beneath(self, one, other):
        """Whether the one thing is beneath the other one."""
        need_things(self.names, (one, other))
        return one in self._beneath[other]

    def meet(self, one, other):
        """The meet of two things."""
        need_things(self.names, (one, other))
        return self._meets[one, other]

    def join(self, one, other):
        """The join of two things."""
        need_things(self.names, (one, other))
        return self._joins[one, other]

    def dual(self):
        """The lattice turned upside down."""
        return Lattice(self.names, [(higher, lower) for lower, higher in self.steps])

    def renamed(self, names):
        """The lattice in which the things, in their order, have these names."""
        if not are_names(names) or len(names) != len(self.names):
            raise BadLattice("names")
        new = {name: other for name, other in zip(self.names, names)}
        return Lattice(names, [(new[lower], new[higher]) for lower, higher in self.steps])

    @staticmethod
    def read(text):
        """The lattice whose text this is."""
        items = items_of(text)
        names = ascending_names(items, MOST_THINGS)
        need_sign(items, len(names), ":")
        steps = steps_at(items, len(names) + 1, names)
        if not are_steps(names, steps):
            raise BadText(0, len(items) - 1)
        return Lattice(names, steps)


def need_names_and_pairs(names, pairs):
    """Raises an error unless these are at most 12 names, and pairs of them."""
    if not are_names(names):
        raise BadLattice("names")
    need_once(names)
    if not are_lists_of(pairs, 2):
        raise BadLattice("pairs")
    there = {name: True for name in names}
    for pair in pairs:
        need_things(there, pair)
    if len(names) > MOST_THINGS:
        raise TooMany("things", MOST_THINGS)


def steps_at(items, at, names):
    """The tuple of the steps that stand there and behind, up to the end."""
    steps = []
    while at < len(items):
        at = behind_sign(items, at, "/", len(steps))
        lower, higher = pair_at(items, at, names, steps[-1] if len(steps) > 0 else ())
        if lower == higher:
            raise BadText(0, at + 1)
        steps.append((lower, higher))
        at += 2
    return tuple(steps)


def are_steps(names, steps):
    """Whether these pairs of names are the steps of a lattice."""
    told = told_above(names, steps)
    if ring_of(told) is not None:
        return False
    above = all_above(told)
    beneath = turned(above)
    return first_unbound(names, bounds(beneath), bounds(above)) is None and steps_of(names, beneath) == steps


def need_things_of_lattice(lattice, things):
    """Raises an error unless this is a lattice and these are things of it."""
    if not isinstance(lattice, Lattice):
        raise BadLattice("lattice")
    need_things(lattice.names, things)
