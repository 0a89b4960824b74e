"""Worlds of things and moves."""

import itertools
import random
from collections.abc import Hashable

from fourthlike.errors import BadText, BadWorld, NoMove, NoThing, TooMany, Twice
from fourthlike.worlds import World
from tests.helpers import NO_ITEMS, NO_LISTS, NO_NAMES, ODD_VALUES, Case, bent_texts, looks_like_name

NO_WORLDS = ODD_VALUES + (0, "", "a", ["a"], ("a",), [["a"], {}])
NO_DICTS = tuple(value for value in ODD_VALUES if not isinstance(value, dict)) + (0, "", "a", [], (), [("go", [])])


def some_worlds(many, things=(1, 5), moves=(0, 3), seed=1):
    """Worlds by chance, with so many things and moves."""
    chance = random.Random(seed)
    found = []
    for _ in range(many):
        names = chance.sample(["a", "b1", "c", "d0", "e"], chance.randint(*things))
        share = chance.choice([0.1, 0.2, 0.3, 0.5])
        told = {move: [(one, other) for one in names for other in names if chance.random() < share]
                for move in chance.sample(["go", "on", "up"], chance.randint(*moves))}
        found.append(World(names, told))
    return found


def pairs_of(world):
    """A dict from the moves to the pairs."""
    return dict(zip(world.moves, world.pairs))


def slow_after(world, thing, way):
    """The lot of a way, as a set."""
    lot = {thing}
    for move in way:
        lot = {other for one, other in pairs_of(world)[move] if one in lot}
    return lot


def can_stand(ahead, item):
    """Whether the item can stand in the text of a world behind those ahead."""
    if ";" not in ahead:
        if item == ";":
            return len(ahead) > 0
        return looks_like_name(item) and len(ahead) < 5 and (not ahead or item > ahead[-1])
    things = ahead[:ahead.index(";")]
    starts = [at for at, one in enumerate(ahead) if one == ";"]
    told = ahead[starts[-1] + 1:]
    if not told:
        return looks_like_name(item) and (len(starts) == 1 or item > ahead[starts[-2] + 1])
    pairs = list(zip(told[1::2], told[2::2]))
    last = pairs[-1] if pairs else ("", "")
    if len(told) % 2 == 1:
        return item in things and item >= last[0] or item == ";" and len(starts) < 3
    return item in things and (told[-1], item) > last


def can_end(items):
    if ";" not in items:
        return True
    return (len(items) - max(at for at, one in enumerate(items) if one == ";")) % 2 == 0


class WorldsTest(Case):
    def test_attributes(self):
        road = World(["b", "a", "c", "d"], {"up": [("a", "c"), ("b", "d")], "on": [["c", "d"], ("a", "b"), ("a", "b")]})
        self.same(road.things, ("a", "b", "c", "d"))
        self.same(road.moves, ("on", "up"))
        self.same(road.pairs, ((("a", "b"), ("c", "d")), (("a", "c"), ("b", "d"))))
        self.same(vars(World(("a",), {}))["things"], ("a",))
        self.same((World(["a"], {}).moves, World(["a"], {}).pairs), ((), ()))
        self.same(World(["a"], {"go": ()}).pairs, ((),))
        self.same(World(things=["a"], moves={"a": [("a", "a")] * 3}).pairs, ((("a", "a"),),))

    def test_things_that_are_none(self):
        for things in NO_LISTS + ("", "a", [], (), {"a": 1}):
            self.raised(BadWorld("things"), World, things, {})
            self.raised(BadWorld("things"), World, things, None)
        for name in NO_NAMES:
            for things in ([name], ["a", name], [name, "a", "a"], ["a", "a", name]):
                self.raised(BadWorld("things"), World, things, None)
        self.raised(Twice("a"), World, ["a", "b", "a", "b"], None)
        self.raised(Twice("b"), World, ["a", "b", "b", "a"] * 3, {"go": [("x", "y")]})

    def test_moves_that_are_none(self):
        for moves in NO_DICTS + ({1: []}, {"go": None}, {"go": "aa"}, {"go": ["aa"]}, {"go": [["a"]]}, {"Go": []},
                                 {"go": [("a", "a", "a")]}, {"go": [("a", "a"), None]}, {"go": {("a", "a"): 1}},
                                 {"go": [("x", "y")], "on": 0}, {"go": ("a", "a")}, {None: []}, {("go",): []},
                                 {"go": [{"a": 1, "b": 2}]}):
            if moves != {}:
                self.raised(BadWorld("moves"), World, ["a"], moves)
                self.raised(BadWorld("moves"), World, list("abcdef"), moves)
        for name in NO_NAMES:
            if isinstance(name, Hashable):
                self.raised(BadWorld("moves"), World, ["a"], {"go": [("x", "a")], name: []})

    def test_pairs_of_what_is_no_thing(self):
        for value in NO_NAMES + ("c1", "ab", "go"):
            self.raised(NoThing(value), World, ["a", "b"], {"go": [("a", "b"), (value, "z")]})
            self.raised(NoThing(value), World, ["a", "b"], {"go": [["a", value], ("z", "a")]})
            self.raised(NoThing(value), World, ["a", "b"],
                        {"on": [("z", "z")], "go": [("a", value)], "up": [("y", "y")]})
            self.raised(NoThing(value), World, list("abcdef"),
                        {"x": [], "z": [("y", "y")], "y": [("a", value)], "w": []})

    def test_bounds(self):
        self.same(World(list("abcde"), {"x": [], "y": [], "z": []}).moves, ("x", "y", "z"))
        self.raised(TooMany("things", 5), World, list("abcdef"), {})
        self.raised(TooMany("things", 5), World, list("abcdef"), {"w": [], "x": [], "y": [], "z": []})
        self.raised(TooMany("moves", 3), World, list("abcde"), {"w": [], "x": [], "y": [], "z": []})
        self.raised(TooMany("things", 5), World, ["x%d" % number for number in range(3000)], {})
        self.raised(TooMany("moves", 3), World, ["a"], {"x%d" % number: [("a", "a")] for number in range(3000)})

    def test_after(self):
        for world in some_worlds(200):
            for many in range(5):
                for way in itertools.islice(itertools.product(world.moves, repeat=many), 30):
                    for thing in world.things:
                        wanted = tuple(sorted(slow_after(world, thing, way)))
                        self.same(world.after(thing, way), wanted)
                        self.same(world.after(thing, list(way)), wanted)
        ring = World(["a", "b"], {"go": [("a", "b"), ("b", "a")]})
        self.same(self.shortly(ring.after, "a", ["go"] * 50001), ("b",))

    def test_after_what_is_none(self):
        road = World(["a", "b"], {"go": [("a", "b")], "on": []})
        for value in NO_NAMES + ("c", "go"):
            self.raised(NoThing(value), road.after, value, [])
            self.raised(NoThing(value), road.after, value, None)
        for way in NO_LISTS + ("", "go", {"go": 1}):
            self.raised(BadWorld("way"), road.after, "a", way)
        for move in NO_NAMES + ("a", "up"):
            self.raised(NoMove(move), road.after, "a", [move])
            self.raised(NoMove(move), road.after, "b", ("go", "on", "go", move, "up"))

    def test_renamed(self):
        chance = random.Random(5)
        for world in some_worlds(100):
            names = dict(zip(world.things, chance.sample(["z%d" % number for number in range(9)], len(world.things))))
            new = world.renamed(names)
            self.assertEqual(new, World(list(names.values()), {
                move: [(names[one], names[other]) for one, other in pairs] for move, pairs in pairs_of(world).items()}))
            self.assertEqual(new.renamed({names[thing]: thing for thing in names}), world)
            turned = dict(zip(world.things, world.things[::-1]))
            self.assertEqual(world.renamed(turned).renamed(turned), world)

    def test_renamed_wrongly(self):
        world = World(["a", "b"], {"go": [("a", "b")]})
        for names in NO_DICTS + ({}, {"a": "x"}, {"a": "x", "b": "x"}, {"a": "x", "b": "y", "c": "z"},
                                 {"a": "x", "c": "y"}, {"a": "x", None: "y"}, ["x", "y"], [("a", "x"), ("b", "y")]):
            self.raised(BadWorld("names"), world.renamed, names)
        for name in NO_NAMES:
            self.raised(BadWorld("names"), world.renamed, {"a": "x", "b": name})
            self.raised(BadWorld("names"), world.renamed, {"a": name, "b": "y"})
            self.raised(BadWorld("names"), world.renamed, {"a": name, "b": name})

    def test_equality(self):
        worlds = some_worlds(80, (1, 2), (0, 2))
        for one, other in itertools.product(worlds, repeat=2):
            self.assertIs(one == other, str(one) == str(other))
        for value in NO_WORLDS + (str(worlds[0]),):
            self.assertFalse(worlds[0] == value)
        self.assertNotEqual(World(["a"], {"go": []}), World(["a"], {}))

    def test_what_is_passed_is_copied(self):
        things, moves = ["a", "b"], {"go": [["a", "b"]]}
        world = World(things, moves)
        things.append("c")
        moves["go"][0].reverse()
        moves["on"] = []
        self.same(str(world), "a b ; go a b")

    def test_texts(self):
        for world in some_worlds(200):
            text = " ".join(world.things) + "".join(
                " ; " + " ".join([move] + [thing for pair in pairs for thing in pair])
                for move, pairs in pairs_of(world).items())
            self.same(str(world), text)
            self.assertEqual(World.read(text), world)
        self.same(str(World(["a"], {"go": [], "b": []})), "a ; b ; go")

    def test_texts_bent_at_each_item(self):
        for text in ("a", "a b ; go a b", "a b c d ; on a b c d ; up a c b d", "a b c d e ; x ; y a a ; z b c b d",
                     "a b ; go a a a b b a b b", "a ; a a a ; b"):
            for bent in bent_texts(text, NO_ITEMS + tuple(sorted(set(text.split(" ")))) + ("aa", "zz", ";", ":", "ab")):
                self.reads(World.read, bent, can_stand, can_end, lambda items: True)

    def test_bent_texts(self):
        for text, item in [
                ("", 0), (" ", 0), (";", 0), ("a ;", 2), ("a ; ", 2), ("a ; go a", 4), ("a ; go a ", 4), ("a ;go", 1),
                ("b a", 1), ("a a", 1), ("a b c d e f", 5), ("a b c d e ; go", None), ("a ; go ;", 4),
                ("a ; go ; go", 4),
                ("a ; go ; a", 4), ("a ; a ; b ; c ;", 7), ("a ; a ; b ; c ; d", 7), ("a ; a ; b ; c a a", None),
                ("a b ; go a b a b", 7), ("a b ; go a b a a", 7), ("a b ; go b a a", 6), ("a b ; go b b b", 7),
                ("a b ; go b b b a", 7), ("a b ; go a c", 5), ("a b ; go c a", 4), ("a b ; go a ; on", 5),
                ("a b go", None), ("a b ; go a b\n", 5), ("a b ; b go", 4), ("a\tb", 0), ("a b ; go a b / b a", 6)]:
            if item is None:
                self.same(str(World.read(text)), text)
            else:
                self.raised(BadText(0, item), World.read, text)

    def test_what_is_no_string(self):
        for value in ODD_VALUES + (1, ["a"], ("a",), World(["a"], {})):
            self.raised(BadText(0, 0), World.read, value)
