"""What pairs of orders teach."""

from fourthlike.checks import are_lists_of
from fourthlike.doings import Agreed, doing_of_names, doing_of_places, done_by_names, done_by_places, paper_of_both
from fourthlike.errors import BadOrder, Impossible
from fourthlike.orderneeds import need_same_names
from fourthlike.orders import Order
from fourthlike.papers import Denial, Paper


class Taught(Paper):
    """The doing of places that all pairs fit, and that of names; None where there is none."""

    def __init__(self, places, names):
        Paper.__init__(self, "taught", places, names)
        self.places, self.names = self.parts


class Untaught(Denial):
    """The number of a pair and a place, and such a number and a name, at which its doings and those of pair 0 part."""

    def __init__(self, places, names):
        Denial.__init__(self, "untaught", places, names)
        self.places, self.names = self.parts


def orders_in(pairs):
    """The list of all orders of the pairs."""
    return [order for pair in pairs for order in pair]


def need_pairs_told(pairs):
    """Raises BadOrder unless these are one or more pairs of orders."""
    if not are_lists_of(pairs, 2) or len(pairs) == 0:
        raise BadOrder("pairs")
    if any([not isinstance(order, Order) for order in orders_in(pairs)]):
        raise BadOrder("pairs")


def need_pairs_of_orders(pairs):
    """Raises an error unless these are one or more pairs of orders, all of the same names."""
    need_pairs_told(pairs)
    need_same_names(orders_in(pairs))


def places_of(pairs):
    """The list of the doings of places of the pairs."""
    return [doing_of_places(one, other) for one, other in pairs]


def names_of(pairs):
    """The list of the doings of names of the pairs."""
    return [doing_of_names(one, other) for one, other in pairs]


def first_parting(doings):
    """The number of the first doing that is unlike the first one, and where they part; None if all are alike."""
    for number, doing in enumerate(doings):
        for at, one in enumerate(doing):
            if one != doings[0][at]:
                return number, at
    return None


def paper_of_pairs(pairs):
    """The Taught of the pairs, or the Untaught."""
    places = places_of(pairs)
    names = names_of(pairs)
    by_places = first_parting(places)
    by_names = first_parting(names)
    if by_places is not None and by_names is not None:
        number, at = by_names
        return Untaught(by_places, (number, names[0][at][0]))
    return Taught(places[0] if by_places is None else None, names[0] if by_names is None else None)


def taught(pairs):
    """The Taught of the pairs, or the Untaught of the least numbers, then the least place and name."""
    need_pairs_of_orders(pairs)
    return paper_of_pairs(pairs)


def taught_of(pairs, order):
    """The Agreed of what the doings of the pairs make of the order, or the Parting."""
    need_pairs_told(pairs)
    if not isinstance(order, Order):
        raise BadOrder("order")
    need_same_names([*orders_in(pairs), order])
    paper = paper_of_pairs(pairs)
    if type(paper) is Untaught:
        raise Impossible(paper)
    if paper.names is None:
        return Agreed(done_by_places(paper.places, order.names))
    by_names = done_by_names(paper.names, order.names)
    if paper.places is None:
        return Agreed(by_names)
    return paper_of_both(done_by_places(paper.places, order.names), by_names)
