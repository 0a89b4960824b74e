"""Carryings that keep the moves of a world."""

import itertools

from fourthlike.bests import none_better
from fourthlike.carryings import Carrying, broken_by, carrying
from fourthlike.errors import BadWorld, NoThing
from fourthlike.worlds import World
from tests.helpers import NO_NAMES, Case
from tests.test_worlds import NO_DICTS, NO_WORLDS, pairs_of, some_worlds


def slow_broken(world, table):
    """The least triple that a carrying breaks, None if it keeps the moves."""
    found = [(move, one, other) for move, pairs in pairs_of(world).items() for one, other in pairs
             if (table[one], table[other]) not in pairs]
    return min(found, default=None)


class CarryingsTest(Case):
    def test_against_all_tables(self):
        for world in some_worlds(60, (1, 3), (0, 3), 3) + some_worlds(12, (4, 5), (1, 2), 4):
            things = world.things
            kept = {}
            for many, images in enumerate(itertools.product(things, repeat=len(things))):
                table = dict(zip(things, images))
                slow = slow_broken(world, table)
                if len(things) < 4 or many % 7 == 0:
                    self.same(broken_by(world, table), slow)
                if slow is None:
                    for a in things:
                        kept.setdefault((a, table[a]), tuple(zip(things, images)))
            for a, c in itertools.product(things, repeat=2):
                found = carrying(world, a, c)
                if (a, c) not in kept:
                    self.assertIsNone(found)
                    continue
                self.assertIs(type(found), Carrying)
                self.same(found.table, kept[a, c])
                self.assertIsNone(broken_by(world, dict(found.table)))

    def test_papers(self):
        self.same(Carrying(table=[["a", "b"]]).table, (("a", "b"),))
        self.same((Carrying([]).word, bool(Carrying([]))), ("carrying", True))
        self.same(carrying(World(["a"], {}), "a", "a").table, (("a", "a"),))
        self.same(carrying(World(["b", "a"], {}), "a", "b").table, (("a", "b"), ("b", "a")))
        self.assertIsNone(carrying(World(["a", "b"], {"go": [("a", "a")]}), "a", "b"))

    def test_what_a_carrying_carries_to_is_a_best_fourth(self):
        for world in some_worlds(80, (2, 4), (1, 3), 6):
            for a, b, c in itertools.product(world.things, repeat=3):
                found = carrying(world, a, c)
                if found is not None and b in none_better(world, a, b, a):
                    self.assertIn(dict(found.table)[b], none_better(world, a, b, c))

    def test_the_least_broken_triple(self):
        world = World(list("abc"), {"x": [("a", "b")], "w": [("b", "c"), ("b", "b"), ("a", "b")]})
        self.same(broken_by(world, {"a": "a", "b": "a", "c": "c"}), ("w", "a", "b"))
        self.same(broken_by(world, {"a": "b", "b": "b", "c": "c"}), ("x", "a", "b"))
        self.same(broken_by(world, {"a": "b", "b": "b", "c": "a"}), ("w", "b", "c"))
        self.assertIsNone(broken_by(world, {"c": "c", "b": "b", "a": "a"}))

    def test_tables_that_are_none(self):
        world = World(["a", "b"], {"go": [("a", "b")]})
        for table in NO_DICTS + ({}, {"a": "a"}, {"b": "a"}, {"a": "a", "b": "b", "c": "a"}, {"a": "a", "c": "b"},
                                 [("a", "a"), ("b", "b")], {"a": "a", None: "b"}, Carrying([("a", "a"), ("b", "b")])):
            self.raised(BadWorld("table"), broken_by, world, table)
        for value in NO_NAMES + ("c", "go"):
            self.raised(BadWorld("table"), broken_by, world, {"a": "a", "b": value})
            self.raised(BadWorld("table"), broken_by, world, {"a": value, "b": "b"})

    def test_errors(self):
        world = World(["a", "b"], {"go": [("a", "b")]})
        for value in NO_WORLDS:
            self.raised(BadWorld("world"), broken_by, value, None)
            self.raised(BadWorld("world"), carrying, value, None, None)
        for value in NO_NAMES + ("c", "go"):
            self.raised(NoThing(value), carrying, world, value, "z")
            self.raised(NoThing(value), carrying, world, "a", value)

    def test_short_answers(self):
        every = list(itertools.product("abcde", repeat=2))
        for pairs in (every, [], [pair for pair in every if pair[0] != pair[1]],
                      [pair for pair in every if pair[0] < pair[1]], [("e", "e")],
                      [("a", "b"), ("b", "c"), ("c", "d"), ("d", "e"), ("e", "a")]):
            for more in (pairs, [("e", "a")], [("d", "e")]):
                world = World(list("abcde"), {"x": pairs, "y": more, "z": [("a", "a")]})
                for a, c in itertools.product("abcde", repeat=2):
                    self.shortly(carrying, world, a, c)
