"""Whether papers on lattices and on sets are right."""

from fourthlike.checks import is_just
from fourthlike.distributive import Distributive, Five, is_pair, is_three
from fourthlike.latticelike import Apart, failing_sides
from fourthlike.lattices import need_things_of_lattice
from fourthlike.nameneeds import is_one_of
from fourthlike.setlike import FourthSet, Outside, are_alike, is_set, names_outside, need_sets


def shows_apart(lattice, a, b, c, value):
    """Whether value is an Apart with a side for each thing on which it fails."""
    need_things_of_lattice(lattice, (a, b, c))
    if type(value) is not Apart or not isinstance(value.sides, tuple) or len(value.sides) != len(lattice):
        return False
    found = [failing_sides(lattice, a, b, c, d) for d in lattice.names]
    return all([is_one_of(side, sides) for side, sides in zip(value.sides, found)])


def are_sets_of(lattice, sets):
    """Whether these sets, one for each thing, are different, and tell all meets and joins."""
    there = {name: one for name, one in zip(lattice.names, sets)}
    for one in there:
        for other in there:
            if one < other and set(there[one]) == set(there[other]):
                return False
            if set(there[one]) & set(there[other]) != set(there[lattice.meet(one, other)]):
                return False
            if set(there[one]) | set(there[other]) != set(there[lattice.join(one, other)]):
                return False
    return True


def is_right_five(lattice, kind, names):
    """Whether these values are a kind, and five things that are of it."""
    if not isinstance(names, tuple) or len(names) != 5 or not all([is_one_of(name, lattice.names) for name in names]):
        return False
    if is_just(kind, "three"):
        return is_three(lattice, names)
    return is_just(kind, "pair") and is_pair(lattice, names)


def shows_distributive(lattice, value):
    """Whether value is a Distributive of any such sets, or a Five of any five things that are one."""
    need_things_of_lattice(lattice, ())
    if type(value) is Five:
        return is_right_five(lattice, value.kind, value.names)
    if type(value) is not Distributive or not isinstance(value.sets, tuple) or len(value.sets) != len(lattice):
        return False
    return all([is_set(one) for one in value.sets]) and are_sets_of(lattice, value.sets)


def shows_set(a, b, c, value):
    """Whether value is a FourthSet with just its names, in any order, or an Outside with any such name."""
    need_sets([("a", a), ("b", b), ("c", c)])
    if type(value) is FourthSet:
        return is_set(value.names) and are_alike(a, b, c, value.names)
    return type(value) is Outside and is_one_of(value.name, names_outside(a, b, c))
