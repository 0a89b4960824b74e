"""Carryings of the things of a world that keep its moves."""

from fourthlike.errors import BadWorld
from fourthlike.nameneeds import is_one_of
from fourthlike.papers import Paper
from fourthlike.worlds import is_table_from, need_things_of_world


class Carrying(Paper):
    """The ascending pairs of each thing and what it is carried to."""

    def __init__(self, table):
        Paper.__init__(self, "carrying", table)
        self.table = self.parts[0]


def first_broken(world, table):
    """The least triple (move, x, y) that is broken by this table, perhaps of some things alone, or None."""
    for move, pairs in zip(world.moves, world.pairs):
        for one, other in pairs:
            if one in table and other in table and (table[one], table[other]) not in pairs:
                return move, one, other
    return None


def broken_by(world, table):
    """None if the carrying keeps the moves, otherwise the least triple that it breaks."""
    need_things_of_world(world, ())
    if not is_table_from(table, world.things):
        raise BadWorld("table")
    if not all([is_one_of(table[thing], world.things) for thing in world.things]):
        raise BadWorld("table")
    return first_broken(world, table)


def completed(world, table, a, c):
    """The least table that begins with this one, carries a to c, and keeps the moves, None if there is none."""
    if first_broken(world, table) is not None:
        return None
    if len(table) == len(world.things):
        return table
    thing = world.things[len(table)]
    others = (c,) if thing == a else world.things
    for other in others:
        found = completed(world, {**table, thing: other}, a, c)
        if found is not None:
            return found
    return None


def carrying(world, a, c):
    """The Carrying that keeps the moves and carries a to c, the least by its table, None if there is none."""
    need_things_of_world(world, (a, c))
    found = completed(world, {}, a, c)
    return None if found is None else Carrying([(thing, found[thing]) for thing in world.things])
