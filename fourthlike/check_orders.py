"""Whether papers on orders are right."""

from fourthlike.checks import is_just, is_just_paper, is_within
from fourthlike.doings import agreed
from fourthlike.nameneeds import is_one_of
from fourthlike.orderlots import MOST_MAKERS, ClosedOrders, OrderMakers, ascending_lot, distinct_names, fourth_around
from fourthlike.orderlots import lot_around, makers_with_first, need_lot_of_orders
from fourthlike.taught import Untaught, names_of, need_pairs_of_orders, paper_of_pairs, places_of


def shows_agreed(a, b, c, value):
    """Whether value is the Agreed or the Parting of the three orders."""
    return is_just_paper(value, agreed(a, b, c))


def is_reason_at(orders, at, reason):
    """Whether the value tells two orders ahead that make the order there, with the first one."""
    if not isinstance(reason, tuple) or len(reason) != 2 or not all([is_within(one, 0, at - 1) for one in reason]):
        return False
    return is_just(orders[at], fourth_around(orders[0], orders[reason[0]], orders[reason[1]]))


def are_reasons(orders, reasons, many):
    """Whether the values tell reasons of all orders but so many, which have None."""
    if not all([reason is None for reason in reasons[:many]]):
        return False
    # Each order is looked at behind those ahead, so the reasons of the next ones find orders there.
    for at in range(many, len(orders)):
        if not is_reason_at(orders, at, reasons[at]):
            return False
    return True


def shows_closed_orders(orders, value):
    """Whether value is a ClosedOrders of the closed lot around the orders, whichever its reasons."""
    need_lot_of_orders(orders)
    if type(value) is not ClosedOrders:
        return False
    if not isinstance(value.orders, tuple) or not isinstance(value.reasons, tuple):
        return False
    told = distinct_names(orders)
    if not is_just(value.orders[:len(told)], tuple(told)) or len(value.orders) != len(value.reasons):
        return False
    if not are_reasons(value.orders, value.reasons, len(told)):
        return False
    many = len(lot_around(told)[0])
    return len(value.orders) == many and len({names: True for names in value.orders}) == many


def is_order_in(value, lot):
    """Whether the value is one of the orders of the lot, as a tuple of names."""
    return isinstance(value, tuple) and all([isinstance(name, str) for name in value]) and value in lot


def shows_order_makers(orders, value):
    """Whether value is an OrderMakers of as few orders as can be, whether or not the least.

    Three orders always do, so with no pair that does, they are as few as can be.
    """
    need_lot_of_orders(orders)
    if type(value) is not OrderMakers or not isinstance(value.orders, tuple):
        return False
    lot = ascending_lot(orders)
    some = value.orders
    if not 1 <= len(some) <= MOST_MAKERS or not all([is_order_in(one, lot) for one in some]):
        return False
    if not all([one < after for one, after in zip(some, some[1:])]) or len(lot_around(some)[0]) != len(lot):
        return False
    return makers_with_first(lot, len(some) - 1) is None


def part_at(doings, number, at):
    """Whether the doing with this number and the first one part there."""
    return is_within(number, 0, len(doings) - 1) and doings[number][at] != doings[0][at]


def is_untaught(pairs, places, names):
    """Whether the values tell where doings of places part, and where doings of names do."""
    if not isinstance(places, tuple) or not isinstance(names, tuple) or len(places) != 2 or len(names) != 2:
        return False
    ascending = sorted(pairs[0][0].names)
    if not is_within(places[1], 0, len(ascending) - 1) or not is_one_of(names[1], ascending):
        return False
    if not part_at(places_of(pairs), places[0], places[1]):
        return False
    return part_at(names_of(pairs), names[0], ascending.index(names[1]))


def shows_taught(pairs, value):
    """Whether value is the Taught of the pairs, or a right Untaught."""
    need_pairs_of_orders(pairs)
    if type(value) is Untaught:
        return is_untaught(pairs, value.places, value.names)
    return is_just_paper(value, paper_of_pairs(pairs))
