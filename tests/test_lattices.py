"""Lattices."""

import itertools
import random

from fourthlike.errors import BadLattice, BadText, NoBound, NoThing, Ring, TooMany, Twice
from fourthlike.lattices import Lattice
from tests.helpers import NO_ITEMS, NO_LISTS, NO_NAMES, ODD_VALUES, Case, bent_texts, looks_like_name

TWELVE = ["n%02d" % number for number in range(12)]
NO_LATTICES = ODD_VALUES + (0, "", "a :", ["a"], ("a", "b"), [["a"], []])


def slow_beneath(names, pairs):
    """The set of all pairs (lower, higher), by the words of the document."""
    found = {(name, name) for name in names} | {tuple(pair) for pair in pairs}
    while True:
        more = {(one, third) for one, two in found for other, third in found if two == other}
        if more <= found:
            return found
        found |= more


def slow_ring(names, pairs):
    """The ring of the fewest names, the first of equally many, or None."""
    told = {tuple(pair) for pair in pairs}
    for many in range(2, len(names) + 1):
        for ring in itertools.permutations(sorted(names), many):
            if all((one, other) in told for one, other in zip(ring, ring[1:] + ring[:1])):
                return ring
    return None


def slow_bound(names, beneath, one, other, side):
    """The meet or the join, by the words of the document, None if there is none."""
    order = beneath if side == "meet" else {(higher, lower) for lower, higher in beneath}
    shared = [name for name in names if (name, one) in order and (name, other) in order]
    found = [name for name in shared if all((lower, name) in order for lower in shared)]
    return found[0] if found else None


def slow_steps(names, beneath):
    """All steps, ascending."""
    less = {(lower, higher) for lower, higher in beneath if lower != higher}
    return tuple(sorted((lower, higher) for lower, higher in less
                        if not any((lower, name) in less and (name, higher) in less for name in names)))


def slow_error(names, pairs):
    """The error that the pairs raise, None if they tell a lattice."""
    ring = slow_ring(names, pairs)
    if ring:
        return Ring(ring)
    beneath = slow_beneath(names, pairs)
    for one, other in itertools.combinations(sorted(names), 2):
        for side in ("meet", "join"):
            if slow_bound(names, beneath, one, other, side) is None:
                return NoBound(one, other, side)
    return None


def small_lattices(most=5):
    """All lattices of up to so many things, but for their names, with names in some order."""
    chance = random.Random(11)
    found = []
    for many in range(1, most + 1):
        seen = set()
        pairs = list(itertools.combinations(range(many), 2))
        for chosen in itertools.product((False, True), repeat=len(pairs)):
            told = [pair for pair, one in zip(pairs, chosen) if one]
            beneath = frozenset(slow_beneath(range(many), told))
            if beneath in seen:
                continue
            seen.add(beneath)
            names = list("abcdefgh"[:many])
            if slow_error(range(many), told) is None:
                chance.shuffle(names)
                found.append((names, [(names[lower], names[higher]) for lower, higher in told]))
    return found


def divisors(number):
    """The lattice of the divisors of a number, told by all pairs."""
    every = [one for one in range(1, number + 1) if number % one == 0]
    return Lattice(["d%d" % one for one in every],
                   [("d%d" % one, "d%d" % other) for one in every for other in every if other % one == 0])


def wide(many):
    """The lattice of a least and a greatest thing, and others between, none beneath another."""
    inner = ["n%02d" % number for number in range(many - 2)]
    return Lattice(["bot", "top"] + inner, [("bot", one) for one in inner] + [(one, "top") for one in inner])


def hexagon():
    """A lattice of two chains of two between a least and a greatest thing."""
    return Lattice.read("a b c d e f : a b / a d / b c / c f / d e / e f")


SMALL = small_lattices()
BIG = [divisors(60), divisors(72), divisors(30), divisors(2 ** 11), wide(12), wide(7), hexagon(),
       Lattice(TWELVE, list(zip(TWELVE, TWELVE[1:])))]


def can_stand(ahead, item):
    """Whether the item can stand in the text of a lattice behind those ahead."""
    if ":" not in ahead:
        if item == ":":
            return len(ahead) > 0
        return looks_like_name(item) and len(ahead) < 12 and (not ahead or item > ahead[-1])
    end = ahead.index(":")
    names, told = ahead[:end], ahead[end + 1:]
    before = tuple(told[len(told) // 3 * 3 - 3:][:2]) if len(told) > 2 else ("", "")
    if len(told) % 3 == 0:
        return item in names and item >= before[0]
    if len(told) % 3 == 1:
        return item in names and item != told[-1] and (told[-1], item) > before
    return item == "/"


def can_end(items):
    return ":" in items and (items[-1] == ":" or (len(items) - items.index(":")) % 3 == 0)


def is_whole(items):
    names = items[:items.index(":")]
    told = items[len(names) + 1:]
    steps = tuple(zip(told[::3], told[1::3]))
    beneath = slow_beneath(names, steps)
    if any((other, one) in beneath for one, other in beneath if one != other):
        return False
    if any(slow_bound(names, beneath, one, other, side) is None
           for one, other in itertools.combinations(names, 2) for side in ("meet", "join")):
        return False
    return slow_steps(names, beneath) == steps


class LatticesTest(Case):
    def test_names_that_are_none(self):
        for names in NO_LISTS + ("", "a", [], (), {"a": 1}):
            self.raised(BadLattice("names"), Lattice, names, [])
            self.raised(BadLattice("names"), Lattice, names, None)
        for name in NO_NAMES:
            for names in ([name], ["a", name], [name, "a", "a"], ["a", "a", name]):
                self.raised(BadLattice("names"), Lattice, names, None)
        self.raised(BadLattice("names"), Lattice, ["a"] * 13 + ["B"], [])

    def test_names_twice(self):
        self.raised(Twice("a"), Lattice, ["a", "a"], None)
        self.raised(Twice("b"), Lattice, ["a", "b", "b", "a"], [("a", "c")])
        self.raised(Twice("a"), Lattice, ["a", "b", "a", "b"], 3)
        self.raised(Twice("n00"), Lattice, TWELVE + ["n00"], [])

    def test_pairs_that_are_none(self):
        for pairs in NO_LISTS + ("", "ab", ["a"], ["ab"], [["a"]], [("a", "b", "a")], [("a", "b"), None],
                                 {("a", "b"): 1}, ("a", "b"), [["x", "y"], 0], [{"a": 1, "b": 2}]):
            self.raised(BadLattice("pairs"), Lattice, ["a", "b"], pairs)
            self.raised(BadLattice("pairs"), Lattice, TWELVE + ["a", "b"], pairs)

    def test_things_that_are_none(self):
        for value in NO_NAMES + ("c", "ab"):
            self.raised(NoThing(value), Lattice, ["a", "b"], [("a", "b"), (value, "b")])
            self.raised(NoThing(value), Lattice, ["a", "b"], [["a", value], ("b", "a"), ("x", "y")])
            self.raised(NoThing(value), Lattice, TWELVE + ["a"], [(value, "y")])
        self.raised(NoThing("y"), Lattice, ["a", "b"], [("a", "b"), ("b", "y"), ("x", "a")])

    def test_12_things_and_13(self):
        self.assertEqual(len(Lattice(TWELVE, list(zip(TWELVE, TWELVE[1:])))), 12)
        names = TWELVE + ["n12"]
        for pairs in ([], [(one, other) for one in names for other in names], list(zip(names, names[1:]))):
            self.raised(TooMany("things", 12), Lattice, names, pairs)
        self.raised(TooMany("things", 12), Lattice, ["x%d" % number for number in range(3000)], [])

    def test_all_pairs_of_few_things(self):
        for many in (1, 2, 3):
            names = ["c", "a", "b"][:many]
            every = list(itertools.permutations(names, 2))
            for chosen in itertools.product((False, True), repeat=len(every)):
                self.one_of_all(names, [pair for pair, one in zip(every, chosen) if one])

    def test_some_pairs_of_more_things(self):
        chance = random.Random(3)
        for _ in range(600):
            names = chance.sample(["a", "b", "c", "d", "e", "f1", "f"], chance.randint(3, 6))
            every = list(itertools.permutations(names, 2))
            self.one_of_all(names, chance.sample(every, chance.randint(0, len(every) // 2)))
            lower = [(one, other) for one, other in every if names.index(one) < names.index(other)]
            self.one_of_all(names, chance.sample(lower, chance.randint(len(lower) // 2, len(lower))))

    def one_of_all(self, names, pairs):
        """Looks at the lattice that the pairs tell, or at the error that they raise."""
        error = slow_error(names, pairs)
        if error is not None:
            self.raised(error, Lattice, names, pairs)
            again = [list(pair) for pair in pairs + pairs] + [(names[0], names[0])]
            self.raised(error, Lattice, tuple(names), again)
            return
        self.looked_at(Lattice(names, pairs), names, pairs)

    def looked_at(self, lattice, names, pairs):
        beneath = slow_beneath(names, pairs)
        self.same(lattice.names, tuple(sorted(names)))
        self.same(lattice.steps, slow_steps(names, beneath))
        self.assertEqual(len(lattice), len(names))
        self.assertEqual([lattice.least], [one for one in names if all((one, name) in beneath for name in names)])
        self.assertEqual([lattice.greatest], [one for one in names if all((name, one) in beneath for name in names)])
        for one, other in itertools.product(names, repeat=2):
            self.assertIs(lattice.is_beneath(one, other), (one, other) in beneath)
            self.assertEqual(lattice.meet(one, other), slow_bound(names, beneath, one, other, "meet"))
            self.assertEqual(lattice.join(one, other), slow_bound(names, beneath, one, other, "join"))

    def test_every_small_lattice(self):
        shapes = {}
        for names, pairs in SMALL:
            beneath = slow_beneath(names, pairs)
            shapes.setdefault(len(names), set()).add(min(
                tuple(sorted((order.index(lower), order.index(higher)) for lower, higher in beneath))
                for order in itertools.permutations(names)))
        self.assertEqual([len(shapes[many]) for many in sorted(shapes)], [1, 1, 1, 2, 5])
        for names, pairs in SMALL:
            lattice = Lattice(names, pairs)
            self.looked_at(lattice, names, pairs)
            self.assertEqual(Lattice(names[::-1], list(lattice.steps)[::-1] + list(pairs)), lattice)

    def test_big_lattices(self):
        for lattice in BIG:
            self.looked_at(lattice, list(lattice.names), lattice.steps)
        self.assertEqual(len(BIG[0]), 12)

    def test_rings(self):
        names = list("abcdef")
        self.raised(Ring(("a", "b")), Lattice, names, [("b", "a"), ("a", "b")])
        self.raised(Ring(("c", "d")), Lattice, names, [("a", "b"), ("b", "c"), ("c", "a"), ("d", "c"), ("c", "d")])
        self.raised(Ring(("a", "d", "c")), Lattice, names,
                    [("b", "e"), ("e", "f"), ("f", "b"), ("a", "d"), ("d", "c"), ("c", "a"), ("a", "a")])
        self.raised(Ring(("a", "b", "d")), Lattice, names,
                    [("a", "c"), ("c", "d"), ("d", "a"), ("a", "b"), ("b", "d"), ("b", "b")])
        self.raised(Ring(tuple(TWELVE)), Lattice, TWELVE, list(zip(TWELVE, TWELVE[1:] + TWELVE[:1])))
        every = [(one, other) for one in TWELVE for other in TWELVE]
        self.shortly(self.raised, Ring(("n00", "n01")), Lattice, TWELVE, every)

    def test_no_bounds(self):
        self.raised(NoBound("b", "c", "join"), Lattice, list("abc"), [("a", "b"), ("a", "c")])
        self.raised(NoBound("a", "b", "meet"), Lattice, list("abc"), [("a", "c"), ("b", "c")])
        self.raised(NoBound("a", "b", "meet"), Lattice, ["b", "a"], [])
        self.raised(NoBound("b", "c", "join"), Lattice, list("abcdef"),
                    [("a", "b"), ("a", "c"), ("b", "d"), ("b", "e"), ("c", "d"), ("c", "e"), ("d", "f"), ("e", "f")])
        self.raised(NoBound("b", "c", "meet"), Lattice, list("abcdef"),
                    [("a", "d"), ("a", "e"), ("d", "b"), ("d", "c"), ("e", "b"), ("e", "c"), ("b", "f"), ("c", "f")])

    def test_pairs_told_twice_and_of_one_thing(self):
        pairs = [("a", "b"), ["a", "b"], ("b", "b"), ("a", "a"), ("a", "b")]
        self.assertEqual(Lattice(["a", "b"], pairs), Lattice(["b", "a"], [("a", "b")]))
        self.same(str(Lattice(("b", "a"), pairs)), "a b : a b")

    def test_one_thing_alone(self):
        for pairs in ([], (), [("a", "a")] * 3):
            lattice = Lattice(["a"], pairs)
            self.same((lattice.names, lattice.steps, lattice.least, lattice.greatest), (("a",), (), "a", "a"))
            self.same(str(lattice), "a :")
            self.assertEqual(Lattice.read("a :"), lattice)
            self.assertEqual(lattice.dual(), lattice)
            self.same((lattice.meet("a", "a"), lattice.join("a", "a"), lattice.is_beneath("a", "a")), ("a", "a", True))

    def test_methods_need_things(self):
        lattice = Lattice.read("a b : a b")
        for call in (lattice.is_beneath, lattice.meet, lattice.join):
            for value in NO_NAMES + ("c", lattice):
                self.raised(NoThing(value), call, value, "a")
                self.raised(NoThing(value), call, "a", value)
                self.raised(NoThing(value), call, value, "c")

    def test_dual(self):
        for lattice in [Lattice(*told) for told in SMALL] + BIG:
            dual = lattice.dual()
            self.assertEqual(dual.dual(), lattice)
            self.assertEqual((dual.least, dual.greatest), (lattice.greatest, lattice.least))
            self.assertEqual(set(dual.steps), {(higher, lower) for lower, higher in lattice.steps})
            for one, other in itertools.product(lattice.names, repeat=2):
                self.assertIs(dual.is_beneath(one, other), lattice.is_beneath(other, one))
                self.assertEqual(dual.meet(one, other), lattice.join(one, other))
                self.assertEqual(dual.join(one, other), lattice.meet(one, other))

    def test_renamed(self):
        chance = random.Random(8)
        for lattice in [Lattice(*told) for told in SMALL] + BIG:
            names = chance.sample(["z%d" % number for number in range(30)], len(lattice))
            new = lattice.renamed(names)
            table = dict(zip(lattice.names, names))
            self.same(new.names, tuple(sorted(names)))
            self.same(new.steps, tuple(sorted((table[lower], table[higher]) for lower, higher in lattice.steps)))
            back = {other: name for name, other in table.items()}
            self.assertEqual(new.renamed([back[name] for name in new.names]), lattice)

    def test_renamed_wrongly(self):
        lattice = Lattice.read("a b : a b")
        for names in NO_LISTS + ("ab", [], ["x"], ["x", "y", "z"], ["x", "x", "x"], {"a": "x", "b": "y"}):
            self.raised(BadLattice("names"), lattice.renamed, names)
        for name in NO_NAMES:
            self.raised(BadLattice("names"), lattice.renamed, ["x", name])
            self.raised(BadLattice("names"), lattice.renamed, [name, "x"])
        self.raised(Twice("x"), lattice.renamed, ["x", "x"])
        self.assertEqual(lattice.renamed(("b", "a")), lattice.dual())

    def test_equality(self):
        lattices = [Lattice(*told) for told in SMALL]
        for one, other in itertools.product(lattices, repeat=2):
            self.assertIs(one == other, str(one) == str(other))
        self.assertNotEqual(Lattice(["a"], []), Lattice(["b"], []))
        for value in NO_LATTICES + (str(lattices[1]), lattices[1].names):
            self.assertFalse(lattices[1] == value)

    def test_what_is_passed_is_copied(self):
        names, pairs = ["a", "b"], [["a", "b"]]
        lattice = Lattice(names, pairs)
        names.append("c")
        pairs[0].reverse()
        self.same(str(lattice), "a b : a b")

    def test_texts(self):
        for lattice in [Lattice(*told) for told in SMALL] + BIG:
            text = " ".join(lattice.names) + " :" + " /".join(" %s %s" % step for step in lattice.steps)
            self.same(str(lattice), text)
            self.assertEqual(Lattice.read(text), lattice)

    def test_bent_texts(self):
        kite = "bot one top two : bot one / bot two / one top / two top"
        for text in (kite, "a :", "a b : a b", "a b c : a c / c b", "a b c d e : a b / a d / b c / c e / d e"):
            for bent in bent_texts(text, NO_ITEMS + tuple(sorted(set(text.split(" ")))) + ("aa", "zz", "/", "a")):
                self.reads(Lattice.read, bent, can_stand, can_end, is_whole)
        for text in (str(BIG[0]), str(BIG[4])):
            for bent in bent_texts(text, ("", "x", ":", "/", "n00", "d1", "d10")):
                if not bent.endswith(text):
                    self.reads(Lattice.read, bent, can_stand, can_end, is_whole)

    def test_texts_of_13_names_and_of_no_lattice(self):
        names = TWELVE + ["n12"]
        self.raised(BadText(0, 12), Lattice.read, " ".join(names) + " :")
        self.raised(BadText(0, 12), Lattice.read, " ".join(names))
        self.raised(BadText(0, 13), Lattice.read, " ".join(TWELVE) + " : n12")
        for text, item in [("a b :", 2), ("a b : a b / b a", 7), ("a b c : a b / a c / b c", 11), ("a b : b a", None),
                           ("a b : a b / a b", 7), ("a b : a a", 4), ("a b : b b", 4), ("a b : b a / a", 6),
                           ("a b c : c b / c", 8), ("a b c : c b / c c", 8), ("a b c : b c / b a", 8), ("a b : a", 4),
                           ("a b : a b /", 6), ("a b : a b / ", 6), ("b a :", 1), ("a a :", 1), (":", 0), ("a", 1),
                           ("a b : a b b", 5), ("a b c d : a c / a d / b c / b d", 15), ("a b : /", 3)]:
            if item is None:
                self.same(str(Lattice.read(text)), text)
            else:
                self.raised(BadText(0, item), Lattice.read, text)

    def test_what_is_no_string(self):
        for value in ODD_VALUES + (1, ["a", ":"], ("a :",), Lattice(["a"], [])):
            self.raised(BadText(0, 0), Lattice.read, value)

    def test_short_answers(self):
        every = [(one, other) for one, other in itertools.combinations(TWELVE, 2)] * 50
        lattice = self.shortly(Lattice, TWELVE, every)
        self.assertEqual(len(lattice.steps), 11)
        self.shortly(Lattice.read, str(divisors(60)))
        self.shortly(self.raised, BadText(0, 1), Lattice.read, "a " * 50000)
