"""Ways in worlds."""

import itertools

from fourthlike.errors import BadWorld, NoThing
from fourthlike.ways import NoShared, NoWay, Way, is_by_way, shared_way, way_from
from fourthlike.worlds import World
from tests.helpers import NO_NAMES, Case
from tests.test_worlds import NO_WORLDS, pairs_of, slow_after, some_worlds

FEW = some_worlds(60, (1, 3), (0, 2), 7) + some_worlds(25, (2, 4), (1, 2), 8)


def ways_up_to(world, many):
    """All ways of at most so many moves, ascending."""
    for length in range(many + 1):
        yield from itertools.product(world.moves, repeat=length)


def lots_up_to(world, many=7):
    """A dict from all ways of so many moves to a dict from things to their lots."""
    return {way: {thing: slow_after(world, thing, way) for thing in world.things} for way in ways_up_to(world, many)}


def are_slowly_shut(world, a, c, lots):
    """Whether pairs of lots are shut, by the words of the document."""
    if ({a}, {c}) not in [(set(first), set(second)) for first, second in lots]:
        return False
    told = [(set(first), set(second)) for first, second in lots]
    for first, second in told:
        for pairs in pairs_of(world).values():
            behind = tuple({other for one, other in pairs if one in lot} for lot in (first, second))
            if all(behind) and behind not in told:
                return False
    return all(first and second for first, second in told)


class WaysTest(Case):
    def test_ways_from_against_a_slow_search(self):
        for world in FEW:
            lots = lots_up_to(world)
            for a, b in itertools.product(world.things, repeat=2):
                found = way_from(world, a, b)
                slow = next((way for way in lots if b in lots[way][a]), None)
                reached = {a}
                while True:
                    more = {other for pairs in world.pairs for one, other in pairs if one in reached}
                    if more <= reached:
                        break
                    reached |= more
                if b in reached:
                    # No way needs more moves than there are things, less one.
                    self.assertEqual(found, Way(slow))
                    self.assertIs(type(found), Way)
                    self.same(found.moves, slow)
                else:
                    self.assertIsNone(slow)
                    self.same(found.things, tuple(sorted(reached)))
                    self.assertIs(type(found), NoWay)

    def test_shared_ways_against_a_slow_search(self):
        for world in FEW:
            lots = lots_up_to(world, 6)
            for a, b, c, d in itertools.product(world.things, repeat=4):
                self.one_shared(world, lots, a, b, c, d)

    def one_shared(self, world, lots, a, b, c, d):
        found = shared_way(world, a, b, c, d)
        slow = next((way for way in lots if b in lots[way][a] and d in lots[way][c]), None)
        self.is_right(bool(found), is_by_way, world, a, b, c, d)
        self.assertEqual(bool(shared_way(world, c, d, a, b)), bool(found))
        if slow is not None:
            self.assertEqual(found, Way(slow))
            return
        if found:
            self.assertGreater(len(found.moves), 6)
            self.assertTrue(b in slow_after(world, a, found.moves) and d in slow_after(world, c, found.moves))
            return
        self.assertIs(type(found), NoShared)
        self.assertTrue(are_slowly_shut(world, a, c, found.lots))
        self.assertFalse(any(b in first and d in second for first, second in found.lots))
        self.assertEqual(len(set(found.lots)), len(found.lots))
        for lot in itertools.chain(*found.lots):
            self.same(lot, tuple(sorted(set(lot))))
        self.assertEqual(shared_way(World(world.things, pairs_of(world)), a, b, c, d), found)

    def test_the_least_of_ways_that_lead_to_several_things(self):
        # By x the way leads to b and c; from b only y leads on, from c only x.
        world = World(["a", "b", "c", "d"], {"x": [("a", "b"), ("a", "c"), ("c", "d")], "y": [("b", "d")]})
        self.same(way_from(world, "a", "d").moves, ("x", "x"))
        world = World(["a", "b", "c", "d"], {"x": [("a", "b"), ("a", "c"), ("c", "d")], "w": [("b", "d")]})
        self.same(way_from(world, "a", "d").moves, ("x", "w"))
        self.same(shared_way(world, "a", "d", "a", "d").moves, ("x", "w"))
        world = World(["a", "b"], {"z": [("a", "b")], "y": [("a", "a"), ("a", "b")]})
        self.same(way_from(world, "a", "b").moves, ("y",))
        self.same(way_from(world, "a", "a").moves, ())

    def test_long_shared_ways(self):
        # Two rings, of two and of three things: just each sixth move leads both back.
        world = World(list("abcde"), {"go": [("a", "b"), ("b", "a"), ("c", "d"), ("d", "e"), ("e", "c")]})
        self.same(shared_way(world, "a", "b", "c", "c").moves, ("go",) * 3)
        self.same(shared_way(world, "a", "b", "c", "e").moves, ("go",) * 5)
        self.same(shared_way(world, "a", "a", "c", "e").moves, ("go",) * 2)

    def test_papers(self):
        self.same((Way(moves=["a"]).moves, NoWay(things=["a"]).things, NoShared(lots=[[["a"], ["b"]]]).lots),
                  (("a",), ("a",), ((("a",), ("b",)),)))
        self.same((Way([]).word, NoWay([]).word, NoShared([]).word), ("way", "noway", "noshared"))
        self.same((bool(Way([])), bool(NoWay([])), bool(NoShared([]))), (True, False, False))

    def test_worlds_without_moves(self):
        world = World(["a", "b"], {})
        self.same(way_from(world, "a", "a").moves, ())
        self.same(way_from(world, "a", "b").things, ("a",))
        self.same(shared_way(world, "a", "b", "b", "a").lots, ((("a",), ("b",)),))
        self.same(shared_way(world, "a", "a", "b", "b").moves, ())

    def test_errors(self):
        world = World(["a", "b"], {"go": [("a", "b")]})
        for call, many in ((way_from, 2), (is_by_way, 4), (shared_way, 4)):
            for value in NO_WORLDS:
                self.raised(BadWorld("world"), call, value, *["a"] * many)
                self.raised(BadWorld("world"), call, value, *[None] * many)
            for value in NO_NAMES + ("c", "go"):
                for at in range(many):
                    things = ["a"] * at + [value] + ["b"] * (many - at - 1)
                    self.raised(NoThing(value), call, world, *things)
                    if at + 1 < many:
                        self.raised(NoThing(value), call, world, *things[:-1], "z")

    def test_short_answers(self):
        wide = World.read("a b c d e ; x a a a c a d b b b e c c d a d b e a e b e e ; y a a b c c e e b"
                          " ; z a c b b c d d a d e")
        for world in some_worlds(40, (5, 5), (3, 3), 9) + [wide]:
            for d in world.things:
                self.shortly(shared_way, world, "a", "b1" if "b1" in world.things else "b", "e", d)
