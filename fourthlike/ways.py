"""Ways in worlds: the least one, and the least one that is shared."""

from fourthlike.papers import Denial, Paper
from fourthlike.worlds import led_to, need_things_of_world


class Way(Paper):
    """A way: a row of moves."""

    def __init__(self, moves):
        Paper.__init__(self, "way", moves)
        self.moves = self.parts[0]


class NoWay(Denial):
    """Things from which no move leads to others."""

    def __init__(self, things):
        Denial.__init__(self, "noway", things)
        self.things = self.parts[0]


class NoShared(Denial):
    """Shut pairs of lots, none with the one thing in the first lot and the other thing in the second."""

    def __init__(self, lots):
        Denial.__init__(self, "noshared", lots)
        self.lots = self.parts[0]


def pairs_behind(world, pair):
    """The list of (move, pair of lots to which the move leads this one), without the moves that end it."""
    found = []
    for move, pairs in zip(world.moves, world.pairs):
        first, second = led_to(pairs, pair[0]), led_to(pairs, pair[1])
        if len(first) > 0 and len(second) > 0:
            found.append((move, (first, second)))
    return found


def ways_to_pairs(world, a, c):
    """A dict of all pairs of lots that ways lead to from a alone and c alone, each with its least way; these ascend.

    A move leads a pair of lots to one pair alone; so if pairs are gone through in the
    order of their least ways, and moves ascend, each pair is first met by its least way.
    """
    first = ((a,), (c,))
    found = {first: ()}
    met = [first]
    at = 0
    while at < len(met):
        pair = met[at]
        for move, behind in pairs_behind(world, pair):
            if behind not in found:
                found[behind] = found[pair] + (move,)
                met.append(behind)
        at += 1
    return found


def way_from(world, a, b):
    """The least Way that can lead a to b, or the NoWay of all things to which ways can lead a."""
    need_things_of_world(world, (a, b))
    ways = ways_to_pairs(world, a, a)
    for lot, _ in ways:
        if b in lot:
            return Way(ways[lot, lot])
    return NoWay(sorted(set([thing for lot, _ in ways for thing in lot])))


def is_by_way(world, a, b, c, d):
    """Whether a : b = c : d."""
    need_things_of_world(world, (a, b, c, d))
    return any([b in first and d in second for first, second in ways_to_pairs(world, a, c)])


def shared_way(world, a, b, c, d):
    """The least Way that is shared by a, b and c, d, or a NoShared."""
    need_things_of_world(world, (a, b, c, d))
    ways = ways_to_pairs(world, a, c)
    for first, second in ways:
        if b in first and d in second:
            return Way(ways[first, second])
    return NoShared(list(ways))
