"""What makes one order of another one, place by place or name by name."""

from fourthlike.orderneeds import need_orders
from fourthlike.orders import Order
from fourthlike.papers import Denial, Paper


class Agreed(Paper):
    """The names of the one fourth of both sorts."""

    def __init__(self, names):
        Paper.__init__(self, "agreed", names)
        self.names = self.parts[0]


class Parting(Denial):
    """The names of the fourths by places and by names, which are unlike."""

    def __init__(self, places, names):
        Denial.__init__(self, "parting", places, names)
        self.places, self.names = self.parts


def doing_of_places(a, b):
    """For each place of b at which place of a its name stands."""
    need_orders([("a", a), ("b", b)])
    return tuple([a.place(name) for name in b.names])


def doing_of_names(a, b):
    """The ascending tuple of the pairs of a name of a and the name that stands in b at its place."""
    need_orders([("a", a), ("b", b)])
    return tuple(sorted([(name, other) for name, other in zip(a.names, b.names)]))


def done_by_places(doing, names):
    """What a doing of places makes of the names of an order."""
    return tuple([names[place] for place in doing])


def done_by_names(doing, names):
    """What a doing of names makes of the names of an order."""
    put = {name: other for name, other in doing}
    return tuple([put[name] for name in names])


def is_by_places(a, b, c, d):
    """Whether one doing of places makes b of a and d of c."""
    need_orders([("a", a), ("b", b), ("c", c), ("d", d)])
    return doing_of_places(a, b) == doing_of_places(c, d)


def is_by_names(a, b, c, d):
    """Whether one doing of names makes b of a and d of c."""
    need_orders([("a", a), ("b", b), ("c", c), ("d", d)])
    return doing_of_names(a, b) == doing_of_names(c, d)


def fourth_by_places(a, b, c):
    """The one fourth by places."""
    need_orders([("a", a), ("b", b), ("c", c)])
    return Order(done_by_places(doing_of_places(a, b), c.names))


def fourth_by_names(a, b, c):
    """The one fourth by names."""
    need_orders([("a", a), ("b", b), ("c", c)])
    return Order(done_by_names(doing_of_names(a, b), c.names))


def paper_of_both(places, names):
    """The Agreed of what comes by places and by names if they are one, otherwise the Parting."""
    return Agreed(places) if places == names else Parting(places, names)


def agreed(a, b, c):
    """The Agreed of the fourths of both sorts if they are one, otherwise the Parting."""
    need_orders([("a", a), ("b", b), ("c", c)])
    return paper_of_both(fourth_by_places(a, b, c).names, fourth_by_names(a, b, c).names)
