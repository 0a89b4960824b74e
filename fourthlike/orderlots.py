"""Closed lots of orders, and the fewest orders that make them."""

from fourthlike.checks import is_list
from fourthlike.doings import done_by_places
from fourthlike.errors import BadOrder, TooMany
from fourthlike.orderneeds import need_same_names
from fourthlike.orders import Order
from fourthlike.papers import Paper
from fourthlike.sublots import lots_below

MOST_NAMES = 4
MOST_MAKERS = 3


class ClosedOrders(Paper):
    """The orders of a closed lot, and for each one its reason."""

    def __init__(self, orders, reasons):
        Paper.__init__(self, "closedorders", orders, reasons)
        self.orders, self.reasons = self.parts


class OrderMakers(Paper):
    """The fewest orders around which a closed lot lies."""

    def __init__(self, orders):
        Paper.__init__(self, "ordermakers", orders)
        self.orders = self.parts[0]


def need_lot_of_orders(orders):
    """Raises an error unless this is a list of one or more orders of the same names."""
    if not is_list(orders) or len(orders) == 0 or any([not isinstance(order, Order) for order in orders]):
        raise BadOrder("orders")
    need_same_names(orders)


def distinct_names(orders):
    """The list of the names of the orders, each order once, in the order told."""
    return list({order.names: True for order in orders})


def fourth_around(first, other, third):
    """The fourth by places of three orders, told as tuples of names."""
    return done_by_places([first.index(name) for name in other], third)


def lot_around(told):
    """The pair of the lists of the orders of the closed lot around those told, each once, and of their reasons.

    What leads from the first one told to the others is done again and again; it comes back, so nothing is lacking.
    """
    found = list(told)
    reasons = [None for _ in told]
    there = {names: True for names in told}
    at = 0
    while at < len(found):
        for number, other in enumerate(told):
            names = fourth_around(told[0], other, found[at])
            if names not in there:
                there[names] = True
                found.append(names)
                reasons.append((number, at))
        at += 1
    return found, reasons


def closed_orders(orders):
    """The ClosedOrders of the closed lot around the orders."""
    need_lot_of_orders(orders)
    found, reasons = lot_around(distinct_names(orders))
    return ClosedOrders(found, reasons)


def is_closed(orders):
    """Whether the lot is closed."""
    need_lot_of_orders(orders)
    told = distinct_names(orders)
    return len(lot_around(told)[0]) == len(told)


def ascending_lot(orders):
    """The ascending list of the closed lot around the orders."""
    return sorted(lot_around(distinct_names(orders))[0])


def makers_with_first(lot, most):
    """The least of the fewest orders, at most so many, around which the ascending lot lies; None if they do not do.

    Any order of the lot can be one of them, so the first one is.
    """
    for others in lots_below(len(lot) - 1, 0, min(most, len(lot)) - 1):
        some = [lot[0], *[lot[number + 1] for number in others]]
        if len(lot_around(some)[0]) == len(lot):
            return some
    return None


def fewest_makers_of(orders):
    """The OrderMakers of the closed lot around the orders, of several the least."""
    need_lot_of_orders(orders)
    if len(orders[0]) > MOST_NAMES:
        raise TooMany("names", MOST_NAMES)
    lot = ascending_lot(orders)
    return OrderMakers(makers_with_first(lot, MOST_MAKERS))
