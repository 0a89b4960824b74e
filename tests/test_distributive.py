"""Whether lattices are distributive."""

import itertools
import random

from fourthlike.distributive import Distributive, Five, distributive
from fourthlike.errors import BadLattice
from fourthlike.latticelike import fourths_in
from fourthlike.lattices import Lattice
from tests.helpers import Case
from tests.test_lattices import BIG, NO_LATTICES, SMALL, slow_error


def is_slowly_distributive(lattice):
    """By the definition."""
    meet, join = lattice.meet, lattice.join
    return all(meet(u, join(v, w)) == join(meet(u, v), meet(u, w))
               for u, v, w in itertools.product(lattice.names, repeat=3))


def is_slow_five(lattice, kind, names):
    """Whether five things are of this kind, by the words of the document."""
    p, q, r, s, t = names

    def bound(one, other):
        return (lattice.meet(one, other), lattice.join(one, other)) == (p, t)
    if kind == "three":
        return len({q, r, s}) == 3 and bound(q, r) and bound(q, s) and bound(r, s)
    return kind == "pair" and lattice.is_beneath(q, r) and q != r and bound(q, s) and bound(r, s)


def some_lattices(many=120):
    """Lattices of 6 to 12 things, by chance."""
    chance = random.Random(21)
    found = []
    while len(found) < many:
        # Lots of a few marks that are closed by what they share are the things, by being part of one another.
        marks = chance.randint(3, 5)
        sets = {frozenset(range(marks))}
        for _ in range(chance.randint(3, 7)):
            one = frozenset(mark for mark in range(marks) if chance.random() < 0.5)
            sets |= {one & other for other in sets} | {one}
        if not 6 <= len(sets) <= 12:
            continue
        names = dict(zip(sorted(sets, key=sorted), chance.sample(["t%d" % number for number in range(20)], len(sets))))
        found.append(Lattice(list(names.values()), [(names[one], names[other]) for one in sets for other in sets
                                                    if one <= other]))
    return found


class DistributiveTest(Case):
    def looked_at(self, lattice):
        found = distributive(lattice)
        if not is_slowly_distributive(lattice):
            self.assertIs(type(found), Five)
            self.assertTrue(is_slow_five(lattice, found.kind, found.names))
            self.assertIs(type(found.names), tuple)
            self.assertFalse(found)
            p, q, r, s, t = found.names
            self.assertTrue({q, r} <= set(fourths_in(lattice, s, p, t)))
            self.assertEqual(distributive(Lattice(lattice.names, lattice.steps)), found)
            return False
        self.assertIs(type(found), Distributive)
        self.assertTrue(found)
        pieces = [name for name in lattice.names if name != lattice.least and not any(
            lattice.join(one, other) == name for one, other in itertools.product(lattice.names, repeat=2)
            if name not in (one, other))]
        self.same(found.sets, tuple(tuple(piece for piece in pieces if lattice.is_beneath(piece, name))
                                    for name in lattice.names))
        self.assertTrue(all(len(fourths_in(lattice, *three)) < 2
                            for three in itertools.product(lattice.names, repeat=3)))
        return True

    def test_small_lattices(self):
        kinds = [self.looked_at(Lattice(*told)) for told in SMALL]
        self.assertTrue(any(kinds) and not all(kinds))

    def test_lattices_of_up_to_12_things(self):
        kinds = [self.looked_at(lattice) for lattice in some_lattices()]
        self.assertTrue(any(kinds) and not all(kinds))

    def test_big_lattices(self):
        self.same([self.looked_at(lattice) for lattice in BIG], [True, True, True, True, False, False, False, True])
        for lattice in BIG:
            self.shortly(distributive, lattice)

    def test_threes_and_pairs(self):
        self.same(distributive(Lattice.read("a b c d e : a b / a c / a d / b e / c e / d e")).kind, "three")
        found = distributive(Lattice.read("a b c d e : a b / a d / b c / c e / d e"))
        self.same(found.parts, ("pair", ("a", "b", "c", "d", "e")))
        self.same(distributive(Lattice(["a"], [])).sets, ((),))
        self.same(distributive(Lattice.read("a b : b a")).sets, (("a",), ()))

    def test_papers(self):
        self.same(Distributive(sets=[["a"], []]).parts, ((("a",), ()),))
        self.same(Five(kind="three", names=list("abcde")).parts, ("three", tuple("abcde")))
        self.same((Distributive(1).word, Five(1, 2).word), ("distributive", "five"))
        self.same((bool(Distributive(0)), bool(Five(1, 1))), (True, False))

    def test_errors(self):
        for value in NO_LATTICES:
            self.raised(BadLattice("lattice"), distributive, value)

    def test_the_lattices_of_the_tests(self):
        for lattice in some_lattices(20):
            if len(lattice) < 8:
                self.assertIsNone(slow_error(list(lattice.names), lattice.steps))
