"""What makes one order of another one, by the definitions."""

import itertools
import random

from fourthlike.doings import (
    Agreed, Parting, agreed, doing_of_names, doing_of_places, fourth_by_names, fourth_by_places, is_by_names,
    is_by_places)
from fourthlike.errors import BadOrder, Misfit
from fourthlike.orders import Order
from tests.helpers import Case
from tests.test_orders import NO_ORDERS, all_orders

CALLS = ((doing_of_places, 2), (doing_of_names, 2), (is_by_places, 4), (is_by_names, 4), (fourth_by_places, 3),
         (fourth_by_names, 3), (agreed, 3))


def slow_places(a, b):
    """The doing of places that makes b of a, by looking at all."""
    many = range(len(a.names))
    found = [t for t in itertools.permutations(many) if all(b.names[k] == a.names[t[k]] for k in many)]
    assert len(found) == 1
    return found[0]


def slow_names(a, b):
    """The doing of names that makes b of a, as a dict."""
    return dict(zip(a.names, b.names))


def slow_by_places(a, b, c):
    """The names of the fourth by places."""
    return tuple(c.names[place] for place in slow_places(a, b))


def slow_by_names(a, b, c):
    """The names of the fourth by names."""
    return tuple(slow_names(a, b)[name] for name in c.names)


class DoingsTest(Case):
    def test_doings(self):
        for many in range(1, 5):
            for a, b in itertools.product(all_orders(many), repeat=2):
                self.same(doing_of_places(a, b), slow_places(a, b))
                self.same(doing_of_names(a, b), tuple(sorted(slow_names(a, b).items())))

    def test_all_threes(self):
        for many in range(1, 4):
            for a, b, c in itertools.product(all_orders(many), repeat=3):
                self.look_at(a, b, c)

    def look_at(self, a, b, c):
        """Fails unless all that is told of the three orders is right; returns whether both sorts agree."""
        places, names = slow_by_places(a, b, c), slow_by_names(a, b, c)
        self.same(fourth_by_places(a, b, c).names, places)
        self.same(fourth_by_names(a, b, c).names, names)
        found = agreed(a, b, c)
        self.same(found, Agreed(places) if places == names else Parting(places, names))
        for d in (Order(places), Order(names), c, b):
            self.is_right(d.names == places, is_by_places, a, b, c, d)
            self.is_right(d.names == names, is_by_names, a, b, c, d)
            self.is_right(d.names == places, is_by_names, a, c, b, d)
        return bool(found)

    def test_threes_of_four_and_five(self):
        chance = random.Random(1)
        orders = all_orders(4)
        for a in orders[::7]:
            for b, c in itertools.product(orders, repeat=2):
                self.look_at(a, b, c)
        orders = all_orders(5)
        for _ in range(300):
            self.look_at(*chance.choices(orders, k=3))

    def test_all_threes_of_four_agree_so_often(self):
        for many, wanted in ((1, 1), (2, 4), (3, 18), (4, 120)):
            orders = all_orders(many)
            for a in orders[:1] + orders[-1:]:
                self.assertEqual(sum(bool(agreed(a, b, c)) for b, c in itertools.product(orders, repeat=2)), wanted)

    def test_turned_orders(self):
        orders = all_orders(3, ("z", "b", "k"))
        for four in itertools.product(orders, repeat=4):
            turned = [order.turned() for order in four]
            self.is_right(is_by_places(*four), is_by_names, *turned)

    def test_wrong_orders(self):
        ab = Order(["a", "b"])
        for call, many in CALLS:
            for at in range(many):
                for value in NO_ORDERS:
                    told = [Order(["c"])] * at + [value] + [None] * (many - at - 1)
                    self.raised(BadOrder("abcd"[at]), call, *told)
            for at in range(many):
                for other, part in ((Order(["a"]), "places"), (Order(["a", "b", "c"]), "places"),
                                    (Order(["a", "c"]), "names")):
                    told = [ab] * many
                    told[at] = other
                    self.raised(Misfit(part), call, *told)
                # Unlike numbers of places come ahead of unlike names.
                told = [ab] * many
                told[at] = Order(["a", "c"])
                told[at - 1] = Order(["c"])
                self.raised(Misfit("places"), call, *told)

    def test_orders_of_the_same_names_only(self):
        for names in (["a", "b", "c"], ["a", "b", "d"], ["d", "e", "f"]):
            wanted = sorted(names) == ["a", "b", "c"]
            for call, many in CALLS:
                told = [Order(["c", "a", "b"])] * (many - 1) + [Order(names)]
                if wanted:
                    call(*told)
                else:
                    self.raised(Misfit("names"), call, *told)
