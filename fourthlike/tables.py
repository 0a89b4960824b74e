"""What a desk keeps: things under names, told fours, cases."""

from fourthlike.bits import is_bit, is_bits
from fourthlike.books import Book
from fourthlike.checks import are_lists_of, is_name, is_word
from fourthlike.errors import BadDesk
from fourthlike.nameneeds import need_names, need_once
from fourthlike.orders import Order
from fourthlike.papers import fixed
from fourthlike.rows import Row
from fourthlike.told import Told


class Table:
    """What a desk keeps."""

    def __init__(self, things=(), fours=(), cases=()):
        if not are_things(things):
            raise BadDesk("things")
        need_once([name for name, _ in things])
        if not are_lists_of(fours, 4) or not all([is_name(name) for four in fours for name in four]):
            raise BadDesk("fours")
        self.told = Told(names_told(fours), fours) if len(fours) > 0 else None
        if not are_cases(cases):
            raise BadDesk("cases")
        self.book = Book(len(cases[0][0]), cases) if len(cases) > 0 else None
        self.things = fixed(things)
        self.fours = fixed(fours)
        self.cases = fixed(cases)
        self.names = tuple([name for name, _ in things])

    def __eq__(self, other):
        return (isinstance(other, Table) and self.things == other.things and self.fours == other.fours
                and self.cases == other.cases)

    def thing(self, name):
        """The thing that is kept under this name."""
        need_names(self.names, (name,))
        return self.things[self.names.index(name)][1]


def is_thing(value):
    """Whether the value can be kept as a thing."""
    return isinstance(value, Row) or isinstance(value, Order) or is_word(value)


def are_things(things):
    """Whether the value is a list of pairs of a name and a thing."""
    return are_lists_of(things, 2) and all([is_name(name) and is_thing(thing) for name, thing in things])


def are_cases(cases):
    """Whether the value is a list of pairs of a row of one or more bits and an outcome."""
    if not are_lists_of(cases, 2):
        return False
    return all([is_bits(row) and len(row) > 0 and is_bit(outcome) for row, outcome in cases])


def names_told(fours):
    """The list of the names in the fours, each once, in the order in which they come first."""
    return list({name: True for four in fours for name in four})


def table_of(things, fours, cases):
    """The table of these things, which are known to be right; so many of them are put in quickly one by one."""
    table = Table((), fours, cases)
    table.things = things
    table.names = tuple([name for name, _ in things])
    return table


def need_table(table):
    """Raises BadDesk unless this is a table."""
    if not isinstance(table, Table):
        raise BadDesk("table")
