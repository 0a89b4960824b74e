"""Whether papers on orders are right."""

import itertools
import random
from unittest.mock import ANY

from fourthlike.check_orders import shows_agreed, shows_closed_orders, shows_order_makers, shows_taught
from fourthlike.doings import Agreed, Parting, agreed
from fourthlike.errors import BadOrder, Misfit
from fourthlike.orderlots import ClosedOrders, OrderMakers, closed_orders, fewest_makers_of
from fourthlike.orders import Order
from fourthlike.papers import Denial, Paper
from fourthlike.taught import Taught, Untaught
from tests.helpers import ODD_VALUES, Case, bent_papers, plain
from tests.test_doings import slow_by_names, slow_by_places, slow_names, slow_places
from tests.test_orderlots import (
    NO_LOTS_OF_ORDERS, lots_of, names_of, slow_fourth, slow_lot, slow_makers, slow_size, some_lots)
from tests.test_orders import NO_ORDERS, all_orders
from tests.test_taught import A, AB, AC, NO_PAIRS_OF_ORDERS, PAIRS, slow_taught

NO_PAPERS = ODD_VALUES + (0, "", "agreed", (), [], ANY, Agreed, Parting, ClosedOrders, OrderMakers, Taught, Untaught,
                          Paper("agreed", ("a", "b")), Denial("parting", (), ()), Paper("closedorders", (), ()),
                          Paper("ordermakers", (("a", "b"),)), Paper("taught", (0, 1), None), AB, ("a", "b"),
                          Denial("untaught", (1, 0), (1, "a")), Paper("closedorders", (("a", "b"),), (None,)))
BENDS = (None, True, False, 0, 1, 2, -1, 1.0, "", "a", "b", "ab", b"a", ANY, (), ("a", "b"), ("b", "a"), (0, 0), (0, 1),
         (1, 0), ("a", "b", "c"), ("b", "a", "c"), {})
ABC, BCA, ACB = [Order(list(names)) for names in ("abc", "bca", "acb")]


def just(value, wanted):
    """Whether both are one, and True and False are no numbers."""
    return repr(plain(value)) == repr(plain(wanted))


def is_right_closed(orders, value):
    """Whether it is a right ClosedOrders, by the words of the document."""
    told = tuple(dict.fromkeys(names_of(orders)))
    lot = slow_lot(tuple(sorted(told)))
    if type(value.orders) is not tuple or type(value.reasons) is not tuple or len(value.reasons) != len(value.orders):
        return False
    if not just(value.orders[:len(told)], told):
        return False
    if not all(any(just(one, names) for names in lot) for one in value.orders):
        return False
    if sorted(value.orders) != sorted(lot):
        return False
    for at, reason in enumerate(value.reasons):
        if at < len(told):
            if reason is not None:
                return False
        elif type(reason) is not tuple or len(reason) != 2 or not all(
                type(one) is int and 0 <= one < at for one in reason):
            return False
        elif slow_fourth(value.orders[0], value.orders[reason[0]], value.orders[reason[1]]) != value.orders[at]:
            return False
    return True


class CheckAgreedTest(Case):
    def test_all_threes_and_bent_papers(self):
        for many in (1, 2, 3):
            for a, b, c in itertools.product(all_orders(many), repeat=3):
                places, names = slow_by_places(a, b, c), slow_by_names(a, b, c)
                right = Agreed(places) if places == names else Parting(places, names)
                for paper in (Agreed(list(places)), Agreed(names), Parting(places, names), Parting(names, places)):
                    self.is_right(just(paper, right), shows_agreed, a, b, c, paper)
                if a.names[0] == "a":
                    for bent in bent_papers(agreed(a, b, c), BENDS):
                        self.is_right(just(bent, right), shows_agreed, a, b, c, bent)

    def test_other_values(self):
        for value in NO_PAPERS:
            self.is_right(False, shows_agreed, AB, AB, AB, value)
            self.is_right(False, shows_closed_orders, [AB], value)
            self.is_right(False, shows_order_makers, [AB], value)
            self.is_right(False, shows_taught, [(AB, AB)], value)

    def test_errors(self):
        for value in NO_ORDERS:
            self.raised(BadOrder("a"), shows_agreed, value, None, None, None)
            self.raised(BadOrder("b"), shows_agreed, AB, value, None, None)
            self.raised(BadOrder("c"), shows_agreed, AB, A, value, None)
        self.raised(Misfit("places"), shows_agreed, AB, AC, A, None)
        self.raised(Misfit("names"), shows_agreed, AB, AC, AB, Agreed(("a", "b")))
        for shows in (shows_closed_orders, shows_order_makers):
            for value in NO_LOTS_OF_ORDERS:
                self.raised(BadOrder("orders"), shows, value, None)
            self.raised(Misfit("places"), shows, [AB, AC, A], None)
            self.raised(Misfit("names"), shows, [AB, AC], None)
        for value in NO_PAIRS_OF_ORDERS:
            self.raised(BadOrder("pairs"), shows_taught, value, None)
        self.raised(Misfit("places"), shows_taught, [(AB, AC), (AB, A)], None)
        self.raised(Misfit("names"), shows_taught, [(AB, AB), (AB, AC)], Taught(None, None))


class CheckClosedTest(Case):
    def test_all_lots_and_bent_papers(self):
        for many in (1, 2, 3):
            for lot in lots_of(all_orders(many))[::2]:
                found = closed_orders(lot)
                self.is_right(True, shows_closed_orders, lot, found)
                self.is_right(True, shows_closed_orders, list(lot) + list(lot)[::-1], found)
                for bent in bent_papers(found, BENDS[::2] + (("b", "c", "a"), (1, 1), (2, 1))):
                    self.is_right(is_right_closed(lot, bent), shows_closed_orders, lot, bent)

    def test_all_reasons_and_other_orders(self):
        orders = all_orders(3)
        lot = [ABC, ACB, Order(["b", "a", "c"])]
        others = [order.names for order in orders if order not in lot]
        right = 0
        for some in itertools.permutations(others):
            told = names_of(lot) + some
            pairs = [list(itertools.product(range(at), repeat=2)) for at in (3, 4, 5)]
            # Of the reasons of the last one each third is looked at.
            for reasons in itertools.product(pairs[0], pairs[1], pairs[2][::3]):
                paper = ClosedOrders(told, [None] * 3 + list(reasons))
                self.is_right(is_right_closed(lot, paper), shows_closed_orders, lot, paper)
                right += is_right_closed(lot, paper)
        self.assertGreater(right, 10)

    def test_orders_that_stand_twice(self):
        lot = [ABC, BCA]
        right = ClosedOrders([*names_of(lot), ("c", "a", "b")], [None, None, (1, 1)])
        self.is_right(True, shows_closed_orders, lot, right)
        for names, reason in ((BCA.names, (0, 1)), (BCA.names, (1, 0)), (ABC.names, (0, 0))):
            self.is_right(False, shows_closed_orders, lot, ClosedOrders([*names_of(lot), names], [None, None, reason]))
        # An order is no reason of itself, told by whatever number.
        for reason in ((2, 0), (0, 2), (-1, 0), (0, -1), (1, -2), (True, 1), (1, 1, 1), (1,)):
            paper = ClosedOrders(right.orders, [None, None, reason])
            self.is_right(False, shows_closed_orders, lot, paper)

    def test_lots_of_four_and_five(self):
        for lot in some_lots(30, 4, (1, 3), 4) + some_lots(30, 5, (1, 3), 5):
            found = self.shortly(closed_orders, lot)
            self.is_right(True, self.shortly, shows_closed_orders, lot, found)
            if len(found.orders) > len(set(names_of(lot))):
                self.is_right(False, shows_closed_orders, lot, ClosedOrders(found.orders[:-1], found.reasons[:-1]))
                self.is_right(False, shows_closed_orders, lot, ClosedOrders(
                    found.orders + found.orders[-1:], found.reasons + found.reasons[-1:]))
                self.is_right(False, shows_closed_orders, lot, ClosedOrders(
                    found.orders, found.reasons[:-1] + ((len(found.orders) - 1, 0),)))


class CheckMakersTest(Case):
    def test_all_lots_of_orders(self):
        for many in (1, 2, 3):
            for lot in lots_of(all_orders(many)):
                right = slow_makers(slow_lot(tuple(sorted(names_of(lot)))))
                self.is_right(True, shows_order_makers, lot, fewest_makers_of(lot))
                for some in lots_of(all_orders(many)) + [()]:
                    self.is_right(names_of(some) in right, shows_order_makers, lot, OrderMakers(names_of(some)))
                    if len(some) > 1:
                        self.is_right(False, shows_order_makers, lot, OrderMakers(names_of(some)[::-1]))

    def test_bent_papers(self):
        for lot in [lot for many in (1, 2, 3) for lot in lots_of(all_orders(many))][::3]:
            right = slow_makers(slow_lot(tuple(sorted(names_of(lot)))))
            for bent in bent_papers(fewest_makers_of(lot), BENDS):
                self.is_right(any(just(bent.orders, some) for some in right), shows_order_makers, lot, bent)

    def test_five_names(self):
        chance = random.Random(2)
        for lot in some_lots(25, 5, (1, 4), 6):
            whole = closed_orders(lot).orders
            fewest = 1 if len(whole) == 1 else 2
            if fewest == 2 and not any(slow_size((whole[0], other)) == len(whole) for other in whole[1:]):
                fewest = 3
            for _ in range(30):
                some = tuple(sorted(set(chance.choices(whole, k=chance.randint(1, 4)))))
                wanted = len(some) == fewest and slow_size(some) == len(whole)
                self.is_right(wanted, self.shortly, shows_order_makers, lot, OrderMakers(some))

    def test_many_orders(self):
        orders = all_orders(5)
        for many in (0, 4, 5, 6, 120):
            self.is_right(False, self.shortly, shows_order_makers, orders, OrderMakers(names_of(orders)[:many]))

    def test_orders_of_other_lots(self):
        four = [Order(list(names)) for names in ("abcd", "bcda", "cdab", "dabc")]
        self.is_right(True, shows_order_makers, four, OrderMakers([four[0].names, four[1].names]))
        self.is_right(True, shows_order_makers, four[::-1], OrderMakers([four[2].names, four[3].names]))
        self.is_right(False, shows_order_makers, four, OrderMakers([four[0].names, four[2].names]))
        self.is_right(False, shows_order_makers, four, OrderMakers([tuple("abdc"), tuple("bdca")]))
        self.is_right(False, shows_order_makers, four, OrderMakers([four[0].names, four[1].names, four[2].names]))


class CheckTaughtTest(Case):
    def is_right_taught(self, pairs, value):
        """Whether it is the Taught, or an Untaught with any such numbers."""
        wanted = slow_taught(pairs)
        if type(value) is Taught:
            return just(value, wanted)
        if type(value.places) is not tuple or type(value.names) is not tuple:
            return False
        places = [dict(enumerate(slow_places(a, b))) for a, b in pairs]
        names = [slow_names(a, b) for a, b in pairs]
        for part, doings in ((value.places, places), (value.names, names)):
            right = [(number, key) for number, doing in enumerate(doings) for key in doing
                     if doing[key] != doings[0][key]]
            if not any(just(part, one) for one in right):
                return False
        return True

    def test_bent_papers(self):
        for pairs in PAIRS[::15]:
            wanted = slow_taught(pairs)
            self.is_right(True, shows_taught, pairs, wanted)
            for bent in bent_papers(wanted, BENDS):
                self.is_right(self.is_right_taught(pairs, bent), shows_taught, pairs, bent)

    def test_all_numbers(self):
        right = 0
        for pairs in [pairs for pairs in PAIRS if len(pairs[0][0]) > 2 and not slow_taught(pairs)][:12]:
            keys = list(enumerate(sorted(pairs[0][0].names)))
            for one, other in itertools.product(range(-1, len(pairs) + 1), repeat=2):
                for (place, _), (_, name) in itertools.product(keys, repeat=2):
                    paper = Untaught((one, place), (other, name))
                    wanted = self.is_right_taught(pairs, paper)
                    self.is_right(wanted, shows_taught, [list(pair) for pair in pairs], paper)
                    right += wanted
        self.assertGreater(right, 50)

    def test_numbers_places_and_names_that_are_none(self):
        pairs = [(ABC, BCA), (ACB, ACB)]
        self.is_right(True, shows_taught, pairs, Untaught((1, 2), (1, "c")))
        for places, names in (((1, 3), (1, "c")), ((1, 4), (1, "c")), ((1, -1), (1, "c")), ((2, 2), (1, "c")),
                              ((1, 2), (2, "c")), ((1, 2), (1, "d")), ((-1, 2), (1, "c")), ((1, 2), (-1, "c")),
                              ((0, 2), (1, "c")), ((1, 2), (0, "c")), ((1, "c"), (1, 2)), ((1, 2, 2), (1, "c"))):
            self.is_right(False, shows_taught, pairs, Untaught(places, names))

    def test_taught_with_too_much_or_too_little(self):
        one = [(ABC, BCA)]
        self.is_right(True, shows_taught, one, Taught((1, 2, 0), (("a", "b"), ("b", "c"), ("c", "a"))))
        self.is_right(False, shows_taught, one, Taught((1, 2, 0), None))
        self.is_right(False, shows_taught, one, Taught(None, (("a", "b"), ("b", "c"), ("c", "a"))))
        self.is_right(False, shows_taught, one, Taught(None, None))
        self.is_right(False, shows_taught, one, Taught((1, 2, 0), (("b", "c"), ("a", "b"), ("c", "a"))))
        self.is_right(False, shows_taught, one, Taught((True, 2, 0), (("a", "b"), ("b", "c"), ("c", "a"))))
        self.is_right(False, shows_taught, one, Untaught((0, 0), (0, "a")))
