"""Which fourths of things of a world are better."""

import itertools

from fourthlike.bests import Compared, compared, fourths_by_way, none_better
from fourthlike.errors import BadWorld, NoThing
from fourthlike.ways import is_by_way
from fourthlike.worlds import World
from tests.helpers import NO_NAMES, Case
from tests.test_ways import FEW, are_slowly_shut, lots_up_to
from tests.test_worlds import NO_WORLDS, pairs_of, slow_after, some_worlds

FORK = World(["a", "b", "c", "d", "e"], {"x": [("a", "b"), ("c", "d"), ("c", "e")], "y": [("a", "b"), ("c", "e")]})


class BestsTest(Case):
    def test_words(self):
        for one, other, says in ((None, None, "as good"), (["x"], None, "better"), (None, (), "worse"),
                                 ([], ["y"], "apart"), (0, False, "apart"), (None, [None], "worse")):
            found = Compared(one, other, [])
            self.same(found.says, says)
            self.same((found.word, bool(found)), ("compared", True))
        self.same(Compared(one=["x"], other=None, lots=[]).parts, (("x",), None, ()))

    def test_fork(self):
        self.same(compared(FORK, "a", "b", "c", "e", "d").says, "better")
        found = compared(FORK, "a", "b", "c", "d", "e")
        self.assertEqual(set(found.lots), {(("a",), ("c",)), (("b",), ("d", "e")), (("b",), ("e",))})
        self.same(compared(FORK, "a", "b", "c", "d", "d").says, "as good")
        self.same(compared(FORK, "a", "b", "c", "a", "b").parts[:2], (None, None))
        self.same(none_better(FORK, "a", "c", "b"), ())
        self.same(fourths_by_way(FORK, "a", "c", "b"), ())
        self.same(none_better(FORK, "a", "a", "c"), ("c",))

    def test_apart(self):
        world = World(list("abcd"), {"x": [("a", "a"), ("b", "c")], "y": [("a", "a"), ("b", "d")]})
        found = compared(world, "a", "a", "b", "c", "d")
        self.same(found.parts, (("x",), ("y",), ()))
        self.same(found.says, "apart")
        self.same(none_better(world, "a", "a", "b"), ("b", "c", "d"))
        self.same(compared(world, "a", "a", "b", "a", "d").parts[:2], (None, ("y",)))

    def test_against_a_slow_search(self):
        words = set()
        for world in FEW[:50] + FEW[60:72]:
            lots = lots_up_to(world, 6)
            for a, b, c in itertools.product(world.things, repeat=3):
                words |= self.one_three(world, lots, a, b, c)
        self.assertEqual(words, {"as good", "better", "worse", "apart"})

    def one_three(self, world, lots, a, b, c):
        """Looks at all that is told of three things; the words that are said."""
        says = {(d, e): self.one_compared(world, lots, (a, b, c), d, e)
                for d, e in itertools.product(world.things, repeat=2)}
        shared = {d: [way for way in lots if b in lots[way][a] and d in lots[way][c]] for d in world.things}
        fourths = fourths_by_way(world, a, b, c)
        self.assertTrue(set(fourths) >= {d for d in world.things if shared[d]})
        self.same(fourths, tuple(d for d in world.things if is_by_way(world, a, b, c, d)))
        best = tuple(e for e in fourths if not any(says[d, e] == "better" for d in world.things))
        self.same(none_better(world, a, b, c), best)
        self.assertEqual(bool(best), bool(fourths))
        return set(says.values())

    def one_compared(self, world, lots, told, d, e):
        """Looks at one Compared against all short ways and, where none parts, at its lots; what it says."""
        a, b, c = told
        found = compared(world, a, b, c, d, e)
        self.assertIs(type(found), Compared)
        for way, mine, its in ((found.one, d, e), (found.other, e, d)):
            slow = next((one for one in lots if b in lots[one][a] and mine in lots[one][c] and its not in lots[one][c]),
                        None)
            if slow is not None:
                self.same(way, slow)
            elif way is not None:
                self.assertGreater(len(way), 6)
                lot = slow_after(world, c, way)
                self.assertTrue(b in slow_after(world, a, way) and mine in lot and its not in lot)
            else:
                self.assertTrue(are_slowly_shut(world, a, c, found.lots))
                self.assertTrue(all(its in second for first, second in found.lots if b in first and mine in second))
        if found.one is not None and found.other is not None:
            self.same(found.lots, ())
        else:
            self.assertEqual(len(set(found.lots)), len(found.lots))
            for lot in itertools.chain(*found.lots):
                self.same(lot, tuple(sorted(set(lot))))
        self.assertEqual(compared(World(world.things, pairs_of(world)), a, b, c, d, e), found)
        return found.says

    def test_errors(self):
        for call, many in ((fourths_by_way, 3), (none_better, 3), (compared, 5)):
            for value in NO_WORLDS:
                self.raised(BadWorld("world"), call, value, *[None] * many)
            for value in NO_NAMES + ("f", "x"):
                for at in range(many):
                    self.raised(NoThing(value), call, FORK, *["a"] * at, value, *["z"] * (many - at - 1))
                    self.raised(NoThing(value), call, FORK, *["a"] * at, value, *["b"] * (many - at - 1))

    def test_short_answers(self):
        for world in some_worlds(40, (5, 5), (3, 3), 19):
            a, b, c, d, e = world.things
            for call, things in ((fourths_by_way, (a, b, c)), (none_better, (a, b, c)), (compared, (a, b, c, d, d))):
                self.shortly(call, world, *things)
