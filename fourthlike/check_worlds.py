"""Whether papers on worlds are right."""

from fourthlike.bests import Compared
from fourthlike.checks import first_twice
from fourthlike.nameneeds import is_one_of
from fourthlike.ways import NoShared, NoWay, Way, pairs_behind
from fourthlike.worlds import need_things_of_world


def are_some_of(value, names):
    """Whether the value is a tuple of some of these names, perhaps equal ones."""
    return isinstance(value, tuple) and all([is_one_of(one, names) for one in value])


def is_lot(world, value):
    """Whether the value is a tuple of different things of the world, of one at least."""
    return are_some_of(value, world.things) and len(value) > 0 and first_twice(value) is None


def is_way_to(world, way, a, b):
    """Whether the value is a way that can lead a to b."""
    return are_some_of(way, world.moves) and b in world.after(a, way)


def is_no_way(world, a, b, things):
    """Whether the value is a lot of things, a among them, b not, from which no move leads to others."""
    if not is_lot(world, things) or a not in things or b in things:
        return False
    return all([other in things for pairs in world.pairs for one, other in pairs if one in things])


def shows_way(world, a, b, value):
    """Whether value is a Way that can lead a to b, or a right NoWay."""
    need_things_of_world(world, (a, b))
    if type(value) is Way:
        return is_way_to(world, value.moves, a, b)
    return type(value) is NoWay and is_no_way(world, a, b, value.things)


def is_pair_of_lots(world, value):
    """Whether the value is a pair of lots, neither empty."""
    return isinstance(value, tuple) and len(value) == 2 and all([is_lot(world, lot) for lot in value])


def shut_pairs(world, a, c, lots):
    """A dict of these pairs of lots, each lot ascending, if they are shut for a and c, each told once; or None."""
    if not isinstance(lots, tuple) or not all([is_pair_of_lots(world, pair) for pair in lots]):
        return None
    found = {(tuple(sorted(first)), tuple(sorted(second))): True for first, second in lots}
    if len(found) != len(lots) or ((a,), (c,)) not in found:
        return None
    shut = all([behind in found for pair in found for _, behind in pairs_behind(world, pair)])
    return found if shut else None


def shows_shared(world, a, b, c, d, value):
    """Whether value is a Way that is shared by a, b and c, d, or a right NoShared."""
    need_things_of_world(world, (a, b, c, d))
    if type(value) is Way:
        return is_way_to(world, value.moves, a, b) and is_way_to(world, value.moves, c, d)
    if type(value) is not NoShared:
        return False
    pairs = shut_pairs(world, a, c, value.lots)
    return pairs is not None and not any([b in first and d in second for first, second in pairs])


def parts_by(world, way, pair, c, d, e):
    """Whether the value is a way that is shared by the pair and c, d, but not by the pair and c, e."""
    a, b = pair
    return is_way_to(world, way, a, b) and is_way_to(world, way, c, d) and not is_way_to(world, way, c, e)


def are_shared_with(pairs, b, d, e):
    """Whether e is in the second lot wherever b is in the first lot and d in the second."""
    return all([e in second for first, second in pairs if b in first and d in second])


def shows_compared(world, a, b, c, d, e, value):
    """Whether value is a Compared whose ways part d and e, and whose lots are right."""
    need_things_of_world(world, (a, b, c, d, e))
    if type(value) is not Compared:
        return False
    if value.one is not None and not parts_by(world, value.one, (a, b), c, d, e):
        return False
    if value.other is not None and not parts_by(world, value.other, (a, b), c, e, d):
        return False
    if value.one is not None and value.other is not None:
        return isinstance(value.lots, tuple) and len(value.lots) == 0
    pairs = shut_pairs(world, a, c, value.lots)
    if pairs is None or value.one is None and not are_shared_with(pairs, b, d, e):
        return False
    return value.other is not None or are_shared_with(pairs, b, e, d)
