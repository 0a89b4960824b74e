"""Worlds of things and moves."""

from fourthlike.checks import are_lists_of, are_names, first_twice, is_list, is_name
from fourthlike.errors import BadText, BadWorld, NoMove, TooMany
from fourthlike.nameneeds import is_one_of, need_once, need_things
from fourthlike.texts import ascending_names, item_at, items_of, need_sign, pair_at

MOST_THINGS = 5
MOST_MOVES = 3


class World:
    """A world: moves that lead things to things."""

    def __init__(self, things, moves):
        need_things_and_moves(things, moves)
        self.things = tuple(sorted(things))
        self.moves = tuple(sorted(moves))
        self.pairs = tuple([tuple(sorted(set([(one, other) for one, other in moves[move]]))) for move in self.moves])

    def __eq__(self, other):
        return (isinstance(other, World) and self.things == other.things
                and self.moves == other.moves and self.pairs == other.pairs)

    def __str__(self):
        return " ".join([*self.things, *items_of_moves(self.moves, self.pairs)])

    def after(self, thing, way):
        """The lot of the way from the thing."""
        need_things(self.things, (thing,))
        if not is_list(way):
            raise BadWorld("way")
        for move in way:
            if not is_one_of(move, self.moves):
                raise NoMove(move)
        lot = (thing,)
        for move in way:
            lot = led_to(self.pairs[self.moves.index(move)], lot)
        return lot

    def renamed(self, names):
        """The world with other names for its things."""
        if not is_table_from(names, self.things) or not are_different_names([names[thing] for thing in self.things]):
            raise BadWorld("names")
        moves = {move: [(names[one], names[other]) for one, other in pairs]
                 for move, pairs in zip(self.moves, self.pairs)}
        return World([names[thing] for thing in self.things], moves)

    @staticmethod
    def read(text):
        """The world whose text this is."""
        items = items_of(text)
        things = ascending_names(items, MOST_THINGS)
        return World(things, moves_at(items, len(things), things))


def is_table_from(value, names):
    """Whether the value is a dict from just all of these different names."""
    return isinstance(value, dict) and len(value) == len(names) and all([name in value for name in names])


def are_different_names(values):
    """Whether these are names, no two alike."""
    return are_names(values) and first_twice(values) is None


def are_moves(value):
    """Whether the value is a dict from names to lists of pairs."""
    if not isinstance(value, dict):
        return False
    return all([is_name(move) and are_lists_of(value[move], 2) for move in value])


def need_things_and_moves(things, moves):
    """Raises an error unless these are things and moves of a world."""
    if not are_names(things):
        raise BadWorld("things")
    need_once(things)
    if not are_moves(moves):
        raise BadWorld("moves")
    there = {thing: True for thing in things}
    for move in sorted(moves):
        for pair in moves[move]:
            need_things(there, pair)
    if len(things) > MOST_THINGS:
        raise TooMany("things", MOST_THINGS)
    if len(moves) > MOST_MOVES:
        raise TooMany("moves", MOST_MOVES)


def led_to(pairs, lot):
    """The ascending tuple of the things to which these pairs lead from the lot."""
    return tuple(sorted(set([other for one, other in pairs if one in lot])))


def items_of_moves(moves, pairs):
    """The items of the text of all these moves, with the pairs of each."""
    told = [[";", move, *[thing for pair in some for thing in pair]] for move, some in zip(moves, pairs)]
    return [item for items in told for item in items]


def pairs_at(items, at, things):
    """The list of the pairs of things that stand there, up to the next `;` or the end."""
    pairs = []
    while at < len(items) and items[at] != ";":
        pairs.append(pair_at(items, at, things, pairs[-1] if len(pairs) > 0 else ()))
        at += 2
    return pairs


def moves_at(items, at, things):
    """A dict of the moves that stand there and behind, up to the end, each with its pairs."""
    moves = {}
    ahead = ""
    while at < len(items):
        need_sign(items, at, ";")
        if len(moves) == MOST_MOVES:
            raise BadText(0, at)
        move = item_at(items, at + 1)
        if not is_name(move) or move <= ahead:
            raise BadText(0, at + 1)
        pairs = pairs_at(items, at + 2, things)
        moves[move] = pairs
        ahead = move
        at = at + 2 + 2 * len(pairs)
    return moves


def need_things_of_world(world, things):
    """Raises an error unless this is a world and these are things of it."""
    if not isinstance(world, World):
        raise BadWorld("world")
    need_things(world.things, things)
