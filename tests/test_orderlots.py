"""Closed lots of orders, against fourths put in as long as one is lacking."""

import functools
import itertools
import random

from fourthlike.doings import fourth_by_places
from fourthlike.errors import BadOrder, Misfit, TooMany
from fourthlike.orderlots import ClosedOrders, OrderMakers, closed_orders, fewest_makers_of, is_closed
from fourthlike.orders import Order
from tests.helpers import Case
from tests.test_orders import NO_ORDERS, all_orders

NO_LOTS_OF_ORDERS = NO_ORDERS[:-1] + ([], (), "a", [None], [["a"]], ["a"], [Order(["a"]), "a"], [Order(["a"]), None],
                                      {"a": Order(["a"])}, Order(["a"]), [[Order(["a"])]])


@functools.lru_cache(None)
def slow_fourth(a, b, c):
    """The fourth by places of three orders, as tuples."""
    return fourth_by_places(Order(a), Order(b), Order(c)).names


@functools.lru_cache(None)
def slow_lot(told):
    """The closed lot around these orders, as tuples."""
    found = set(told)
    while True:
        more = {slow_fourth(*three) for three in itertools.product(sorted(found), repeat=3)} - found
        if not more:
            return frozenset(found)
        found |= more


def lots_of(orders):
    """All lots of the orders, none empty."""
    return [some for many in range(1, len(orders) + 1) for some in itertools.combinations(orders, many)]


def names_of(orders):
    return tuple(order.names for order in orders)


def slow_makers(lot):
    """All lots of as few orders as can be around which the lot lies, the least first."""
    for many in range(1, len(lot) + 1):
        found = [some for some in itertools.combinations(sorted(lot), many) if slow_lot(some) == lot]
        if found:
            return found
    raise AssertionError


def some_lots(many, names, sizes, seed):
    chance = random.Random(seed)
    orders = all_orders(names)
    return [chance.choices(orders, k=chance.randint(*sizes)) for _ in range(many)]


class OrderLotsTest(Case):
    def look_at(self, orders, lot):
        """Fails unless the closed lot around these orders is told rightly."""
        found = closed_orders(list(orders))
        self.assertIs(type(found), ClosedOrders)
        told = tuple(dict.fromkeys(names_of(orders)))
        self.same(found.orders[:len(told)], told)
        self.assertEqual(set(found.orders), lot)
        self.assertEqual((len(found.orders), len(found.reasons)), (len(lot), len(lot)))
        for at, reason in enumerate(found.reasons):
            if at < len(told):
                self.assertIsNone(reason)
            else:
                self.assertTrue(type(reason) is tuple and len(reason) == 2 and 0 <= min(reason) <= max(reason) < at)
                three = found.orders[0], found.orders[reason[0]], found.orders[reason[1]]
                self.same(found.orders[at], slow_fourth(*three))
        self.is_right(len(told) == len(lot), is_closed, orders)
        self.same(closed_orders(tuple(orders)), found)

    def test_all_lots_of_up_to_three_names(self):
        for many in (1, 2, 3):
            for lot in lots_of(all_orders(many)):
                self.look_at(lot, slow_lot(tuple(sorted(names_of(lot)))))

    def test_lots_of_four(self):
        for lot in some_lots(40, 4, (1, 3), 1):
            self.look_at(lot, slow_lot(tuple(sorted(set(names_of(lot))))))

    def test_lots_of_five(self):
        sizes = set()
        for lot in some_lots(60, 5, (1, 4), 2):
            found = self.shortly(closed_orders, lot)
            self.look_at(lot, set(found.orders))
            self.assertEqual(120 % len(found.orders), 0)
            sizes.add(len(found.orders))
            whole = [Order(names) for names in found.orders]
            self.is_right(True, self.shortly, is_closed, whole)
            # A closed lot has the fourth of its first order and each two, so the lot is no greater than it must be.
            self.assertEqual({slow_fourth(found.orders[0], one, other) for one in found.orders[:6]
                              for other in found.orders} | set(found.orders), set(found.orders))
        self.assertTrue({1, 2, 120} <= sizes)

    def test_one_that_stands_twice_counts_once(self):
        abc, bca = Order(["a", "b", "c"]), Order(["b", "c", "a"])
        self.same(closed_orders([bca, abc, bca, abc]).orders[:2], (bca.names, abc.names))
        self.is_right(True, is_closed, [abc] * 5)
        self.is_right(True, is_closed, [abc, bca, Order(["c", "a", "b"]), bca])
        self.same(fewest_makers_of([abc, abc]).orders, (abc.names,))

    def test_fewest_makers(self):
        sizes = set()
        for lot in [lot for many in (1, 2, 3) for lot in lots_of(all_orders(many))] + some_lots(25, 4, (1, 4), 3):
            whole = slow_lot(tuple(sorted(set(names_of(lot)))))
            found = self.shortly(fewest_makers_of, lot)
            if len(whole) < 24:
                self.same(found, OrderMakers(slow_makers(whole)[0]))
            sizes.add((len(whole), len(found.orders)))
        self.assertTrue({(1, 1), (2, 2), (3, 2), (4, 2), (6, 3), (24, 3)} <= sizes)

    def test_makers_of_all_orders_of_four(self):
        orders = all_orders(4)
        found = fewest_makers_of(orders).orders
        self.assertEqual(slow_size(found), 24)
        # No three orders that are less do, nor any two.
        self.assertEqual((len(found), found[0]), (3, names_of(orders)[0]))
        for many in (1, 2, 3):
            for some in itertools.combinations(names_of(orders), many):
                if some == found:
                    break
                self.assertLess(slow_size(some), 24)
        # The four that come of two exchanges need three makers.
        four = [Order(list(names)) for names in ("abcd", "badc", "cdab", "dcba")]
        self.same([len(fewest_makers_of(four).orders), is_closed(four)], [3, True])

    def test_five_names_are_refused(self):
        orders = all_orders(5)
        self.raised(TooMany("names", 4), fewest_makers_of, orders[:1])
        self.raised(TooMany("names", 4), fewest_makers_of, orders)
        self.raised(Misfit("places"), fewest_makers_of, orders[:1] + all_orders(4))

    def test_errors(self):
        ab, ac = Order(["a", "b"]), Order(["a", "c"])
        for call in (closed_orders, is_closed, fewest_makers_of):
            for value in NO_LOTS_OF_ORDERS:
                self.raised(BadOrder("orders"), call, value)
            self.raised(BadOrder("orders"), call, [ab, Order(["a"]), None])
            self.raised(Misfit("places"), call, [ab, ac, Order(["a"])])
            self.raised(Misfit("places"), call, (Order(["a"]), ac))
            self.raised(Misfit("names"), call, [ab, ab, ac])


def slow_size(some):
    """How many orders the closed lot around these has: what leads from the first one to others is done on and on."""
    found = {some[0]}
    waiting = [some[0]]
    while waiting:
        names = waiting.pop()
        for other in some[1:]:
            after = slow_fourth(some[0], other, names)
            if after not in found:
                found.add(after)
                waiting.append(after)
    return len(found)
