"""Orders of names."""

import itertools

from fourthlike.errors import BadOrder, BadText, NoName, Twice
from fourthlike.orders import Order
from tests.helpers import NO_ITEMS, NO_LISTS, NO_NAMES, ODD_VALUES, Case, bent_texts, looks_like_name

NAMES = ("a", "b", "c", "d", "e")
NO_ORDERS = ODD_VALUES + (0, "", "a b", ["a", "b"], ("a",), [])


def all_orders(many, names=NAMES):
    """All orders of the first names."""
    return [Order(some) for some in itertools.permutations(names[:many])]


def can_stand(ahead, item):
    return looks_like_name(item) and item not in ahead and len(ahead) < 5


class OrderTest(Case):
    def test_attributes(self):
        for names in (["a"], ("b", "a"), ["up", "in", "by", "of", "x1"]):
            order = Order(names)
            self.same(order.names, tuple(names))
            self.same(len(order), len(names))
            self.same(str(order), " ".join(names))
            self.assertEqual(Order(names=names), order)
            for place, name in enumerate(names):
                self.same(order.place(name), place)

    def test_wrong_names(self):
        for names in NO_LISTS + ("", "ab", [], (), {"a": 1}, ["a", "b", "c", "d", "e", "f"], ["a"] * 6):
            self.raised(BadOrder("names"), Order, names)
        for name in NO_NAMES:
            for names in ([name], ["a", name], [name, "a", "a"], ["a", "a", name]):
                self.raised(BadOrder("names"), Order, names)
        self.raised(Twice("a"), Order, ["a", "b", "a", "b"])
        self.raised(Twice("b"), Order, ["a", "b", "b", "a"])

    def test_places_of_what_is_none(self):
        for value in NO_NAMES + ("c", "ab"):
            self.raised(NoName(value), Order(["b", "a"]).place, value)

    def test_turned(self):
        for many in range(1, 6):
            for order in all_orders(many, ("d", "a", "e", "c", "b")):
                ascending = sorted(order.names)
                wanted = [ascending[order.names.index(name)] for name in ascending]
                self.same(order.turned().names, tuple(wanted))
                self.assertEqual(order.turned().turned(), order)

    def test_what_is_passed_is_copied(self):
        names = ["a", "b"]
        order = Order(names)
        names.append("c")
        self.same(order.names, ("a", "b"))

    def test_equality(self):
        orders = [order for many in (1, 2, 3) for order in all_orders(many)] + [Order(["b"]), Order(("a", "b"))]
        for one, other in itertools.product(orders, repeat=2):
            self.assertIs(one == other, one.names == other.names)
        for value in NO_ORDERS + ("a", ("a",)):
            self.assertFalse(orders[0] == value)

    def test_texts(self):
        for many in range(1, 6):
            for order in all_orders(many):
                self.assertEqual(Order.read(str(order)), order)

    def test_texts_bent_at_each_item(self):
        for text in ("a", "b a", "up in by of", "e d c b a"):
            for bent in bent_texts(text, NO_ITEMS + ("a", "b", "z9", "f", "/", "-", "abcdefghijkl")):
                self.reads(Order.read, bent, can_stand, lambda items: True, lambda items: True)

    def test_bent_texts(self):
        for text, item in [("", 0), (" ", 0), ("a a", 1), ("a b a", 2), ("a b c d e f", 5), ("a b c d e e", 5),
                           ("a ", 1), ("a  b", 1), ("A", 0), ("a b c d e", None)]:
            if item is None:
                self.same(str(Order.read(text)), text)
            else:
                self.raised(BadText(0, item), Order.read, text)
        for value in ODD_VALUES + (1, ["a"], Order(["a"])):
            self.raised(BadText(0, 0), Order.read, value)
