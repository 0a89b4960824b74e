"""Orders of names."""

from fourthlike.checks import are_names
from fourthlike.errors import BadOrder
from fourthlike.nameneeds import need_names, need_once
from fourthlike.texts import different_names_at, items_of, need_end

MOST_NAMES = 5


class Order:
    """An order of one to five names."""

    def __init__(self, names):
        if not are_names(names) or len(names) > MOST_NAMES:
            raise BadOrder("names")
        need_once(names)
        self.names = tuple(names)

    def __len__(self):
        return len(self.names)

    def __eq__(self, other):
        return isinstance(other, Order) and self.names == other.names

    def __str__(self):
        return " ".join(self.names)

    def place(self, name):
        """The place at which the name stands."""
        need_names(self.names, (name,))
        return self.names.index(name)

    def turned(self):
        """The order that tells where the names stand: at place i the name with the number of the place of name i."""
        ascending = sorted(self.names)
        return Order([ascending[self.names.index(name)] for name in ascending])

    @staticmethod
    def read(text):
        """The order whose text this is."""
        return order_from(items_of(text), 0)


def order_from(items, at):
    """The order whose text stands there and behind, up to the end."""
    names = different_names_at(items, at, MOST_NAMES)
    need_end(items, at + len(names))
    return Order(names)
