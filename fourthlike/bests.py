"""Which fourths of things of a world are better than others."""

from fourthlike.papers import Paper
from fourthlike.ways import ways_to_pairs
from fourthlike.worlds import need_things_of_world


class Compared(Paper):
    """Ways by which two things part as fourths, or pairs of lots that show that there is none."""

    def __init__(self, one, other, lots):
        Paper.__init__(self, "compared", one, other, lots)
        self.one, self.other, self.lots = self.parts
        self.says = word_of_ways(self.one, self.other)


def word_of_ways(one, other):
    """What it says if these ways, or None, are shared by the first thing alone, and by the second alone."""
    if one is None and other is None:
        return "as good"
    if one is None:
        return "worse"
    return "better" if other is None else "apart"


def second_lots(world, a, b, c):
    """The second lots of all pairs of lots to which ways lead that have b in the first lot."""
    return [second for first, second in ways_to_pairs(world, a, c) if b in first]


def shares_all(seconds, d, e):
    """Whether d shares all ways that e shares, if these are the lots of the ways from a to b."""
    return all([d in second for second in seconds if e in second])


def is_better(seconds, d, e):
    """Whether d is better than e."""
    return shares_all(seconds, d, e) and not shares_all(seconds, e, d)


def in_any(world, seconds):
    """The ascending list of the things that are in any of these lots."""
    return [thing for thing in world.things if any([thing in second for second in seconds])]


def fourths_by_way(world, a, b, c):
    """The ascending tuple of all fourths."""
    need_things_of_world(world, (a, b, c))
    return tuple(in_any(world, second_lots(world, a, b, c)))


def none_better(world, a, b, c):
    """The ascending tuple of the fourths than which none is better."""
    need_things_of_world(world, (a, b, c))
    seconds = second_lots(world, a, b, c)
    found = in_any(world, seconds)
    return tuple([e for e in found if not any([is_better(seconds, d, e) for d in found])])


def parting_way(ways, b, d, e):
    """The least of these ways that leads to b and d, and not to e, None if there is none."""
    for first, second in ways:
        if b in first and d in second and e not in second:
            return ways[first, second]
    return None


def compared(world, a, b, c, d, e):
    """The Compared of the things d and e as fourths of a, b, c."""
    need_things_of_world(world, (a, b, c, d, e))
    ways = ways_to_pairs(world, a, c)
    one, other = parting_way(ways, b, d, e), parting_way(ways, b, e, d)
    return Compared(one, other, list(ways) if one is None or other is None else ())
