"""What functions on orders need of the orders that they are passed."""

from fourthlike.errors import BadOrder, Misfit
from fourthlike.orders import Order


def need_same_names(orders):
    """Raises Misfit for unlike numbers of places, then for unlike names."""
    if any([len(order) != len(orders[0]) for order in orders]):
        raise Misfit("places")
    if any([sorted(order.names) != sorted(orders[0].names) for order in orders]):
        raise Misfit("names")


def need_orders(named):
    """Raises an error unless these pairs (parameter, value) tell orders of the same names."""
    for part, order in named:
        if not isinstance(order, Order):
            raise BadOrder(part)
    need_same_names([order for _, order in named])
