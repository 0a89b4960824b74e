"""Proportions and fourths of things of a lattice."""

import itertools
import random

from fourthlike.errors import BadLattice, NoThing
from fourthlike.latticelike import Apart, fourths_in, is_like_things, no_thing
from fourthlike.lattices import Lattice
from tests.helpers import NO_NAMES, Case
from tests.test_lattices import BIG, NO_LATTICES, SMALL, slow_beneath, slow_bound


class LatticelikeTest(Case):
    def all_fours(self, lattice, threes):
        """Looks at all fours that begin with these threes, against the definition."""
        beneath = slow_beneath(lattice.names, lattice.steps)
        bounds = {(one, other, side): slow_bound(lattice.names, beneath, one, other, side)
                  for one, other in itertools.product(lattice.names, repeat=2) for side in ("meet", "join")}
        for a, b, c in threes:
            fourths, sides = [], []
            for d in lattice.names:
                fails = [side for side in ("meet", "join") if bounds[a, d, side] != bounds[b, c, side]]
                self.is_right(not fails, is_like_things, lattice, a, b, c, d)
                fourths.extend([] if fails else [d])
                sides.extend(fails[:1] or [None])
            self.same(fourths_in(lattice, a, b, c), tuple(fourths))
            self.same(fourths_in(lattice, a, c, b), tuple(fourths))
            low, high = bounds[b, c, "meet"], bounds[b, c, "join"]
            self.same(fourths_in(lattice, a, low, high), tuple(fourths))
            if fourths:
                self.assertIsNone(no_thing(lattice, a, b, c))
                self.assertTrue((low, a) in beneath and (a, high) in beneath)
            else:
                self.assertEqual(no_thing(lattice, a, b, c), Apart(sides))
                self.assertIs(type(no_thing(lattice, a, b, c)), Apart)

    def test_all_fours_of_small_lattices(self):
        for told in SMALL:
            lattice = Lattice(*told)
            self.all_fours(lattice, list(itertools.product(lattice.names, repeat=3)))

    def test_some_fours_of_big_lattices(self):
        chance = random.Random(2)
        for lattice in BIG:
            self.all_fours(lattice, [chance.choices(lattice.names, k=3) for _ in range(60)])

    def test_words_of_the_apart(self):
        chain = Lattice.read("a b c : a b / b c")
        self.assertIsNone(no_thing(chain, "b", "b", "c"))
        self.same(no_thing(chain, "b", "a", "c").sides, ("join", "meet", "meet"))
        # All fail at the meet, c at the join, too.
        found = no_thing(chain, "a", "b", "b")
        self.same(found.sides, ("meet", "meet", "meet"))
        self.same(no_thing(chain, "c", "a", "b").sides, ("join", "meet", "meet"))
        self.same((found.word, bool(found), found.parts), ("apart", False, (found.sides,)))
        self.same(Apart(sides=["join"]).sides, ("join",))
        self.assertEqual(Apart(["join"]), Apart(("join",)))

    def test_one_thing_alone(self):
        lattice = Lattice(["a"], [])
        self.same(fourths_in(lattice, "a", "a", "a"), ("a",))
        self.is_right(True, is_like_things, lattice, "a", "a", "a", "a")

    def test_errors(self):
        lattice = Lattice.read("a b : a b")
        for call, many in ((is_like_things, 4), (fourths_in, 3), (no_thing, 3)):
            for value in NO_LATTICES + (Lattice,):
                self.raised(BadLattice("lattice"), call, value, *["a"] * many)
                self.raised(BadLattice("lattice"), call, value, *[None] * many)
            for value in NO_NAMES + ("c", lattice):
                for at in range(many):
                    things = ["a"] * many
                    things[at] = value
                    self.raised(NoThing(value), call, lattice, *things)
                    for other in range(at + 1, many):
                        more = list(things)
                        more[other] = "z"
                        self.raised(NoThing(value), call, lattice, *more)
        self.is_right(True, lambda: is_like_things(lattice=lattice, a="a", b="a", c="b", d="b"))
