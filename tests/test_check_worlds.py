"""Whether papers on worlds are right."""

import itertools
import random
from unittest.mock import ANY

from fourthlike.bests import Compared, compared
from fourthlike.check_worlds import shows_compared, shows_shared, shows_way
from fourthlike.errors import BadWorld, NoThing
from fourthlike.papers import Denial, Paper
from fourthlike.ways import NoShared, NoWay, Way, shared_way, way_from
from fourthlike.worlds import World
from tests.helpers import NO_NAMES, ODD_VALUES, Case
from tests.test_bests import FORK
from tests.test_ways import FEW, are_slowly_shut, lots_up_to
from tests.test_worlds import NO_WORLDS, some_worlds

ROAD = World.read("a b c d ; on a b c d ; up a c b d")
NO_PAPERS = ODD_VALUES + (0, "", "way", (), [], ANY, Paper("way", ()), Denial("noway", ("a",)), Way, NoWay, NoShared,
                          Denial("noshared", ((("a",), ("b",)),)), Compared, Paper("compared", None, None, ()))
NO_LOTS = ODD_VALUES + (0, "", "a", ANY, "abcd", [None], [ANY], [["a"]], ["a", "a"], [True], {"a": 1},
                        ["on"], ["z"], ["a", "z"])


def some_of(values):
    """All parts of a list."""
    return [[one for one, there in zip(values, chosen) if there]
            for chosen in itertools.product((False, True), repeat=len(values))]


class CheckWayTest(Case):
    def test_all_ways_and_lots_of_few_things(self):
        for world in FEW:
            lots = lots_up_to(world, 3)
            for a, b in itertools.product(world.things, repeat=2):
                for way in lots:
                    self.is_right(b in lots[way][a], shows_way, world, a, b, Way(way))
                for some in some_of(world.things):
                    shut = all(other in some for pairs in world.pairs for one, other in pairs if one in some)
                    wanted = a in some and b not in some and shut
                    self.is_right(wanted, shows_way, world, a, b, NoWay(some[::-1]))
                self.is_right(True, shows_way, world, a, b, way_from(world, a, b))

    def test_bent_ways(self):
        self.is_right(True, shows_way, ROAD, "a", "d", Way(["up", "on"]))
        self.is_right(True, shows_way, ROAD, "a", "a", Way([]))
        for bad in NO_NAMES + ("a", "down", ANY):
            self.is_right(False, shows_way, ROAD, "a", "d", Way([bad, "on"]))
            self.is_right(False, shows_way, ROAD, "a", "d", Way(["up", "on", bad]))
        for bad in (None, "up", ["up"], ["on", "up", "on"], {"up": 1, "on": 2}, 2, [["up", "on"]], ANY, "", True):
            self.is_right(False, shows_way, ROAD, "a", "d", Way(bad))
        ring = World(["a"], {"go": [("a", "a")]})
        self.is_right(True, shows_way, ring, "a", "a", Way(["go"] * 10000))
        for bad in NO_PAPERS + (["up", "on"], Paper("way", ("up", "on")), Compared(["up", "on"], None, [])):
            self.is_right(False, shows_way, ROAD, "a", "d", bad)

    def test_bent_lots(self):
        self.is_right(True, shows_way, ROAD, "b", "a", NoWay(["d", "b"]))
        self.is_right(True, shows_way, ROAD, "b", "a", NoWay(("c", "b", "d")))
        for bad in NO_LOTS + (["b"], ["d"], ["b", "d", "b"], ["a", "b", "c", "d"], ["b", "d", "e"], ["b", "d", None],
                              [["b"], "d"], [["b", "d"]], "bd", ["b", "d", ANY]):
            self.is_right(False, shows_way, ROAD, "b", "a", NoWay(bad))
        for bad in NO_PAPERS + (["b", "d"], Denial("noway", ("b", "d"))):
            self.is_right(False, shows_way, ROAD, "b", "a", bad)

    def test_errors(self):
        for value in NO_WORLDS:
            self.raised(BadWorld("world"), shows_way, value, None, None, None)
        for value in NO_NAMES + ("e", "up"):
            self.raised(NoThing(value), shows_way, ROAD, value, "z", Way([]))
            self.raised(NoThing(value), shows_way, ROAD, "a", value, None)


class CheckSharedTest(Case):
    def test_ways_and_what_shared_way_tells(self):
        for world in FEW:
            lots = lots_up_to(world, 3)
            for a, b, c, d in itertools.product(world.things, repeat=4):
                for way in itertools.islice(lots, 8):
                    wanted = b in lots[way][a] and d in lots[way][c]
                    self.is_right(wanted, shows_shared, world, a, b, c, d, Way(way))
                self.is_right(True, shows_shared, world, a, b, c, d, shared_way(world, a, b, c, d))

    def test_all_lots_of_pairs_in_worlds_of_two_things(self):
        lots = [["a"], ["b"], ["b", "a"]]
        pairs = list(itertools.product(lots, repeat=2))
        chance = random.Random(14)
        for world in (World(["a", "b"], {"x": [("a", "b")]}),
                      World(["a", "b"], {"x": [("a", "a"), ("a", "b")], "y": []}),
                      World(["a", "b"], {"x": [("b", "a")], "y": [("a", "a"), ("b", "b")]})):
            for some in some_of(pairs):
                for a, b, c, d in chance.sample(list(itertools.product("ab", repeat=4)), 4):
                    wanted = are_slowly_shut(world, a, c, some) and not any(
                        b in one and d in other for one, other in some)
                    self.is_right(wanted, shows_shared, world, a, b, c, d, NoShared(some))

    def test_bent_pairs_of_lots(self):
        told = ("a", "b", "b", "d")
        lots = [[["c"], ["d"]], [["a"], ["b"]]]
        self.is_right(False, shows_shared, ROAD, "a", "b", "c", "d", NoShared([[["a"], ["c"]], [["b"], ["d"]]]))
        self.is_right(True, shows_shared, ROAD, *told, NoShared(lots))
        self.is_right(True, shows_shared, ROAD, *told, NoShared(lots + [[["d"], ["d"]], [["c"], ["b"]]]))
        for at, side in itertools.product(range(2), range(2)):
            for bad in NO_LOTS + ([], ["e"], [lots[at][side][0]] * 2):
                bent = [list(pair) for pair in lots]
                bent[at][side] = bad
                self.is_right(False, shows_shared, ROAD, *told, NoShared(bent))
        for bad in (lots[:1], lots[1:], [], None, "ab", 2, lots + [lots[0]], lots + [[["d"]]], [lots[0], None],
                    [lots[0], "ab"], lots + [[["d"], ["d"], ["d"]]], lots + [[[], ["d"]]], lots + [[["d"], []]],
                    {0: lots}, lots[0], ANY, lots + [ANY], lots + [[["b"], ["d"]]], [pair[::-1] for pair in lots]):
            self.is_right(False, shows_shared, ROAD, *told, NoShared(bad))
        double = World(["a", "b"], {"x": [("a", "a"), ("a", "b"), ("b", "b")]})
        right = [[["a"], ["b"]], [["a", "b"], ["b"]]]
        self.is_right(True, shows_shared, double, "a", "a", "b", "a", NoShared(right))
        self.is_right(True, shows_shared, double, "a", "a", "b", "a", NoShared([[["b", "a"], ["b"]], right[0]]))
        self.is_right(False, shows_shared, double, "a", "a", "b", "a", NoShared(right + [[["b", "a"], ["b"]]]))
        for bad in NO_PAPERS + (lots, NoWay(["a"]), Denial("noshared", lots), Compared(None, None, lots)):
            self.is_right(False, shows_shared, ROAD, *told, bad)

    def test_errors(self):
        for value in NO_WORLDS:
            self.raised(BadWorld("world"), shows_shared, value, None, None, None, None, None)
        for value in NO_NAMES + ("e", "up"):
            for at in range(4):
                self.raised(NoThing(value), shows_shared, ROAD, *"abcd"[:at], value, *"zzzz"[at + 1:], Way([]))


class CheckComparedTest(Case):
    def test_what_compared_tells(self):
        for world in FEW[:40]:
            for a, b, c, d, e in itertools.product(world.things, repeat=5):
                found = compared(world, a, b, c, d, e)
                self.is_right(True, shows_compared, world, a, b, c, d, e, found)
                turned = Compared(found.other, found.one, found.lots)
                self.is_right(True, shows_compared, world, a, b, c, e, d, turned)
                if found.one != found.other:
                    self.is_right(False, shows_compared, world, a, b, c, d, e, turned)

    def test_all_ways(self):
        for world in FEW[:30]:
            lots = lots_up_to(world, 2)
            for a, b, c, d, e in itertools.product(world.things, repeat=5):
                found = compared(world, a, b, c, d, e)
                for way in lots:
                    parts = b in lots[way][a] and d in lots[way][c] and e not in lots[way][c]
                    self.is_right(parts, shows_compared, world, a, b, c, d, e, Compared(way, found.other, found.lots))
                    turned = Compared(found.other, way, found.lots)
                    self.is_right(parts, shows_compared, world, a, b, c, e, d, turned)

    def test_bent_lots(self):
        told = ("a", "b", "c", "d", "e")
        lots = [[["a"], ["c"]], [["b"], ["e", "d"]], [["b"], ["e"]]]
        self.is_right(True, shows_compared, FORK, *told, Compared(None, ["y"], lots))
        self.is_right(True, shows_compared, FORK, *told, Compared(None, ["y"], lots[::-1]))
        self.is_right(True, shows_compared, FORK, *told, Compared(None, ["y"], lots + [[["e"], ["d"]]]))
        for at, side in itertools.product(range(3), range(2)):
            for bad in NO_LOTS + ([], ["x"], [lots[at][side][0]] * 2):
                bent = [list(pair) for pair in lots]
                bent[at][side] = bad
                self.is_right(False, shows_compared, FORK, *told, Compared(None, ["y"], bent))
        for bad in (lots[1:], lots[:2], [lots[0], lots[2]], lots + [lots[0]], [], None, 3, "ab", ANY,
                    lots + [[["b"], ["d"]]], lots + [None], lots + [[["b"], ["d", "e"]]], lots[0]):
            self.is_right(False, shows_compared, FORK, *told, Compared(None, ["y"], bad))
        for one, other in ((None, None), (["x"], ["y"]), (["y"], None), (None, ["x"]), (None, []), (None, ["y", "y"]),
                           (None, "y"), (None, ["z"]), (None, [None]), (None, True), (False, ["y"]), ((), ["y"]),
                           (None, ANY), (ANY, ["y"]), (None, [ANY]), (0, ["y"]), (None, [["y"]])):
            self.is_right(False, shows_compared, FORK, *told, Compared(one, other, lots))

    def test_lots_beside_two_ways(self):
        world = World(list("abcd"), {"x": [("a", "a"), ("b", "c")], "y": [("a", "a"), ("b", "d")]})
        told = ("a", "a", "b", "c", "d")
        self.is_right(True, shows_compared, world, *told, Compared(["x"], ["y"], []))
        for bad in (None, [[["a"], ["b"]]], 0, False, "", {}, [None], [[]], ANY):
            self.is_right(False, shows_compared, world, *told, Compared(["x"], ["y"], bad))
        shut = [[["a"], ["b"]], [["a"], ["c"]], [["a"], ["d"]]]
        self.is_right(False, shows_compared, world, *told, Compared(["x"], None, shut))
        self.is_right(False, shows_compared, world, *told, Compared(None, None, shut))
        self.is_right(False, shows_compared, world, *told, Compared(["x"], ["y"], shut))
        self.is_right(True, shows_compared, world, "a", "a", "b", "c", "c", Compared(None, None, shut))

    def test_other_values(self):
        for bad in NO_PAPERS + ("as good", Way(["y"]), NoShared([]), Paper("compared", None, ("y",), ())):
            self.is_right(False, shows_compared, FORK, "a", "b", "c", "d", "e", bad)

    def test_errors(self):
        for value in NO_WORLDS:
            self.raised(BadWorld("world"), shows_compared, value, *[None] * 6)
        for value in NO_NAMES + ("f", "x"):
            for at in range(5):
                self.raised(NoThing(value), shows_compared, FORK, *"abcde"[:at], value, *"zzzzz"[at + 1:], None)

    def test_short_answers(self):
        for world in some_worlds(20, (5, 5), (3, 3), 29):
            a, b, c, d, _ = world.things
            found = self.shortly(compared, world, a, b, c, d, d)
            self.assertTrue(self.shortly(shows_compared, world, a, b, c, d, d, found))
