"""Proportions, fourths and prices of rows of marks."""

from fourthlike.papers import Denial, Paper
from fourthlike.rowneeds import need_rows
from fourthlike.rows import Row


class Fourth(Paper):
    """The one fourth of three rows."""

    def __init__(self, row):
        Paper.__init__(self, "fourth", row)
        self.row = self.parts[0]


class NoFourth(Denial):
    """A place at which the first of three rows is neither the second nor the third."""

    def __init__(self, place):
        Denial.__init__(self, "nofourth", place)
        self.place = self.parts[0]


class Nearest(Paper):
    """The price of the nearest rows, and the marks that they have at each place."""

    def __init__(self, price, choices):
        Paper.__init__(self, "nearest", price, choices)
        self.price, self.choices = self.parts


def kind_at(w, x, y, z):
    """The kind of four marks at one place."""
    steady = w == x and y == z
    change = w == y and x == z
    if steady and change:
        return "both"
    if steady:
        return "steady"
    return "change" if change else None


def price_at(w, x, y, z):
    """The price of four marks at one place."""
    if kind_at(w, x, y, z) is not None:
        return 0
    return 1 if w == x or y == z or w == y or x == z else 2


def kinds_at(a, b, c, d):
    """For each place "steady", "change", "both", or None."""
    need_rows([("a", a), ("b", b), ("c", c), ("d", d)])
    return tuple([kind_at(w, x, y, z) for w, x, y, z in zip(a.places, b.places, c.places, d.places)])


def is_proportion(a, b, c, d):
    """Whether a : b = c : d."""
    return all([kind is not None for kind in kinds_at(a, b, c, d)])


def fourth_of(a, b, c):
    """The Fourth of three rows, or the NoFourth of the least place."""
    need_rows([("a", a), ("b", b), ("c", c)])
    places = []
    for place, (x, y, z) in enumerate(zip(a.places, b.places, c.places)):
        if x != y and x != z:
            return NoFourth(place)
        places.append(z if x == y else y)
    return Fourth(Row(a.marks, places))


def price(a, b, c, d):
    """The least number of marks that must be changed for a : b = c : d."""
    need_rows([("a", a), ("b", b), ("c", c), ("d", d)])
    return sum([price_at(w, x, y, z) for w, x, y, z in zip(a.places, b.places, c.places, d.places)])


def nearest(a, b, c):
    """The Nearest of three rows."""
    need_rows([("a", a), ("b", b), ("c", c)])
    total = 0
    choices = []
    for x, y, z in zip(a.places, b.places, c.places):
        prices = [price_at(x, y, z, mark) for mark in range(a.marks)]
        least = min(prices)
        total = total + least
        choices.append(tuple([mark for mark, one in enumerate(prices) if one == least]))
    return Nearest(total, choices)
