"""Whether papers on lattices and on sets are right."""

import itertools
import random
from unittest.mock import ANY

from fourthlike.check_lattices import shows_apart, shows_distributive, shows_set
from fourthlike.distributive import Distributive, Five, distributive
from fourthlike.errors import BadLattice, BadRow, NoThing, Twice
from fourthlike.latticelike import Apart, no_thing
from fourthlike.lattices import Lattice
from fourthlike.papers import Denial, Paper
from fourthlike.setlike import FourthSet, Outside, fourth_set
from tests.helpers import NO_NAMES, ODD_VALUES, Case
from tests.test_distributive import is_slow_five, some_lattices
from tests.test_lattices import BIG, NO_LATTICES, SMALL
from tests.test_setlike import SETS, is_slowly_like

TRIO = Lattice.read("bot top x y z : bot x / bot y / bot z / x top / y top / z top")
KITE = Lattice.read("bot one top two : bot one / bot two / one top / two top")
NO_PAPERS = ODD_VALUES + (0, "", "apart", (), [], ANY, Paper("apart", ("meet",)), Denial("apart", ("meet",)),
                          Paper("distributive", ((),)), Denial("five", "three", tuple("abcde")), Apart, Distributive,
                          Five, FourthSet, Outside, Paper("fourthset", ()), Denial("outside", "a"))
NO_SIDES = (None, True, 0, "", "Meet", "both", b"meet", ["meet"], ANY, "mee", "left")


class CheckApartTest(Case):
    def all_sides(self, lattice, a, b, c):
        """Looks at an Apart of each row of sides."""
        right = [["meet"] * (lattice.meet(a, d) != lattice.meet(b, c))
                 + ["join"] * (lattice.join(a, d) != lattice.join(b, c)) for d in lattice.names]
        for sides in itertools.product(("meet", "join"), repeat=len(lattice)):
            wanted = all(side in some for side, some in zip(sides, right))
            self.is_right(wanted, shows_apart, lattice, a, b, c, Apart(sides))
            self.is_right(wanted, shows_apart, lattice, a, c, b, Apart(list(sides)))

    def test_all_sides_in_small_lattices(self):
        for told in SMALL:
            lattice = Lattice(*told)
            if len(lattice) < 5:
                for a, b, c in itertools.product(lattice.names, repeat=3):
                    self.all_sides(lattice, a, b, c)
        for a, b, c in itertools.product(TRIO.names, repeat=3):
            self.all_sides(TRIO, a, b, c)

    def test_what_no_thing_tells(self):
        chance = random.Random(6)
        for lattice in BIG + some_lattices(20):
            for _ in range(20):
                a, b, c = chance.choices(lattice.names, k=3)
                found = no_thing(lattice, a, b, c)
                if found is not None:
                    self.is_right(True, shows_apart, lattice, a, b, c, found)
                    self.is_right(False, shows_apart, lattice, a, b, c, Apart(found.sides[1:]))

    def test_bent_sides(self):
        sides = ["join", "meet", "meet", "join", "join"]
        self.is_right(True, shows_apart, TRIO, "x", "bot", "y", Apart(sides))
        for bad in NO_SIDES:
            for at in range(5):
                self.is_right(False, shows_apart, TRIO, "x", "bot", "y", Apart(sides[:at] + [bad] + sides[at + 1:]))
            self.is_right(False, shows_apart, TRIO, "x", "bot", "y", Apart(bad))
        for bad in (sides[:4], sides + ["meet"], sides[1:], [], [sides], dict.fromkeys("abcde", "meet"), 5, "meets"):
            self.is_right(False, shows_apart, TRIO, "x", "bot", "y", Apart(bad))
        for bad in NO_PAPERS + (sides, Paper("apart", tuple(sides)), Denial("apart", tuple(sides))):
            self.is_right(False, shows_apart, TRIO, "x", "bot", "y", bad)

    def test_errors(self):
        for value in NO_LATTICES:
            self.raised(BadLattice("lattice"), shows_apart, value, None, None, None, None)
        for value in NO_NAMES + ("c", TRIO):
            self.raised(NoThing(value), shows_apart, TRIO, value, "w", "w", Apart([]))
            self.raised(NoThing(value), shows_apart, TRIO, "x", value, "w", None)
            self.raised(NoThing(value), shows_apart, TRIO, "x", "y", value, None)


class CheckDistributiveTest(Case):
    def test_what_distributive_tells(self):
        for lattice in [Lattice(*told) for told in SMALL] + BIG + some_lattices(60):
            found = distributive(lattice)
            self.is_right(True, shows_distributive, lattice, found)
            if isinstance(found, Distributive):
                more = [["extra", *one[::-1]] for one in found.sets]
                self.is_right(True, shows_distributive, lattice, Distributive(more))
                for one in ([], ["a", "b"]):
                    self.is_right(len(lattice) == 1, shows_distributive, lattice, Distributive([one] * len(more)))

    def test_all_fives_of_some_lattices(self):
        for lattice in (TRIO, Lattice.read("a b c d e : a b / a d / b c / c e / d e"), KITE):
            for names in itertools.product(lattice.names, repeat=5):
                for kind in ("three", "pair"):
                    self.is_right(is_slow_five(lattice, kind, names), shows_distributive, lattice, Five(kind, names))

    def test_all_sets_for_few_things(self):
        some = [(), ("l",), ("r",), ("l", "r"), ("r", "l"), ("l", "s"), ("s", "r"), ("r", "s", "l"), ("s",)]
        for lattice in (Lattice(["a"], []), Lattice.read("b c : c b"), Lattice.read("a b c : a c / c b"), KITE):
            for sets in itertools.product(some, repeat=len(lattice)):
                table = dict(zip(lattice.names, map(set, sets)))
                wanted = len({frozenset(one) for one in sets}) == len(sets) and all(
                    table[one] & table[other] == table[lattice.meet(one, other)]
                    and table[one] | table[other] == table[lattice.join(one, other)]
                    for one, other in itertools.product(lattice.names, repeat=2))
                self.is_right(wanted, shows_distributive, lattice, Distributive(sets))

    def test_bent_sets(self):
        sets = [[], ["l"], ["l", "r"], ["r"]]
        self.is_right(True, shows_distributive, KITE, Distributive(sets))
        self.is_right(True, shows_distributive, KITE, Distributive(tuple(tuple(one[::-1]) for one in sets)))
        for bad in (sets[1:], sets + [[]], sets[::-1], [[], ["l"], ["r", "l", "l"], ["r"]], [[], ["l"], ["r"], ["r"]],
                    [[], ["l"], ["l", "r"], None], [[], ["l"], ["l", "r"], "r"], [[], ["l"], ["l", "r"], [["r"]]],
                    [[], ["l", "s"], ["l", "r"], ["r"]], [["s"], ["l"], ["l", "r"], ["r"]], None, 4, "abcd", [],
                    sets[0], {0: []}, ANY, [ANY] * 4, [[ANY], ["l", ANY], ["l", "r", ANY], ["r", ANY]]):
            self.is_right(False, shows_distributive, KITE, Distributive(bad))
        for bad in NO_NAMES + (ANY,):
            self.is_right(False, shows_distributive, KITE, Distributive([[], [bad], [bad, "r"], ["r"]]))
            self.is_right(False, shows_distributive, KITE, Distributive([[], ["l"], bad, ["r"]]))
        for bad in NO_PAPERS + (sets, Paper("distributive", sets), Denial("five", "pair", KITE.names)):
            self.is_right(False, shows_distributive, KITE, bad)

    def test_bent_fives(self):
        names = ["bot", "x", "y", "z", "top"]
        self.is_right(True, shows_distributive, TRIO, Five("three", names))
        for bad in NO_NAMES + ("c", "bot", ANY):
            for at in range(1, 5):
                self.is_right(False, shows_distributive, TRIO, Five("three", names[:at] + [bad] + names[at + 1:]))
            self.is_right(False, shows_distributive, TRIO, Five("three", bad))
        pair = Lattice.read("a b c d e : a b / a d / b c / c e / d e")
        self.is_right(True, shows_distributive, pair, Five("pair", list("abcde")))
        for bad in ("pair", "Three", "", None, True, 3, ["three"], b"three", ANY, "four"):
            self.is_right(False, shows_distributive, TRIO, Five(bad, names))
            self.is_right(bad == "pair" and bad is not ANY, shows_distributive, pair, Five(bad, list("abcde")))
        for bad in (names[:4], names + ["bot"], [], "three", None, 5, {"a": 1}, names[::-1],
                    ["bot", "x", "x", "z", "top"], ["bot", "x", "y", "y", "top"], ["bot", "x", "y", "x", "top"]):
            self.is_right(False, shows_distributive, TRIO, Five("three", bad))
        self.is_right(False, shows_distributive, KITE, Five("three", ["bot", "one", "two", "one", "top"]))
        self.is_right(False, shows_distributive, KITE, Five("pair", ["bot", "one", "one", "two", "top"]))
        for bad in NO_PAPERS:
            self.is_right(False, shows_distributive, TRIO, bad)

    def test_errors(self):
        for value in NO_LATTICES:
            self.raised(BadLattice("lattice"), shows_distributive, value, Distributive([[]]))


class CheckSetTest(Case):
    def test_all_small_sets(self):
        names = ["a", "b", "c1", "d"]
        for a, b, c in itertools.product(SETS, repeat=3):
            self.is_right(True, shows_set, a, b, c, fourth_set(a, b, c))
            found = [d for d in SETS if is_slowly_like(a, b, c, d)]
            for d in SETS:
                self.is_right(d in found, shows_set, a, b, c, FourthSet(d[::-1]))
            for name in names:
                wanted = name in b and name in c and name not in a or name in a and name not in b + c
                self.is_right(wanted, shows_set, a, b, c, Outside(name))

    def test_bent_papers(self):
        told = (["a", "b"], ["b"], ["a", "c"])
        self.is_right(True, shows_set, *told, FourthSet(["c"]))
        for bad in NO_NAMES + ("a", "c", (), ["c", "c"], ["c", "a"], {"c": 1}, ANY, [ANY], [None], [["c"]]):
            self.is_right(False, shows_set, *told, FourthSet(bad))
            self.is_right(False, shows_set, *told, Outside(bad))
        told = (["a"], ["b", "c"], ["c"])
        self.is_right(True, shows_set, *told, Outside("c"))
        self.is_right(True, shows_set, *told, Outside("a"))
        for bad in NO_NAMES + ("b", "d", ("a",), ANY, ["c"]):
            self.is_right(False, shows_set, *told, Outside(bad))
        for bad in NO_PAPERS + (Paper("outside", "a"), Denial("outside", "a"), "a", ("c",)):
            self.is_right(False, shows_set, *told, bad)
        self.is_right(False, shows_set, *told, FourthSet(["b", "c"]))

    def test_errors(self):
        for at in range(3):
            for value in NO_NAMES + ("ab", 5):
                if value not in ([], ()) and value not in (["a"], ("a",)):
                    self.raised(BadRow("abc"[at]), shows_set, *[["a"]] * at, value, *[None] * (2 - at), None)
            self.raised(Twice("a"), shows_set, *[["a"]] * at, ["b", "a", "a", "b"], *[None] * (2 - at), None)
