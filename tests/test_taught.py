"""What pairs of orders teach."""

import itertools
import random

from fourthlike.doings import Agreed, Parting
from fourthlike.errors import BadOrder, Impossible, Misfit
from fourthlike.orders import Order
from fourthlike.taught import Taught, Untaught, taught, taught_of
from tests.helpers import Case
from tests.test_doings import slow_names, slow_places
from tests.test_orders import NO_ORDERS, all_orders

AB, BA, AC, A = Order(["a", "b"]), Order(["b", "a"]), Order(["a", "c"]), Order(["a"])
NO_PAIRS_OF_ORDERS = NO_ORDERS[:-1] + ([], (), [AB], [(AB,)], [(AB, AB, AB)], [(AB, BA), (AB,)], [(AB, "a b")], AB,
                                       [(AB, BA), (None, AB)], [(AB, BA), None], {(AB.names, BA.names): 1},
                                       [[AB, ["a"]]])


def slow_unlike(doings):
    """The least number and key at which a doing, a dict, parts from the first one; None if none does."""
    for number, doing in enumerate(doings):
        for key in sorted(doing):
            if doing[key] != doings[0][key]:
                return number, key
    return None


def slow_taught(pairs):
    """The Taught or the Untaught of the pairs."""
    places = [dict(enumerate(slow_places(a, b))) for a, b in pairs]
    names = [slow_names(a, b) for a, b in pairs]
    by_places, by_names = slow_unlike(places), slow_unlike(names)
    if by_places and by_names:
        return Untaught(by_places, by_names)
    return Taught(None if by_places else tuple(places[0].values()),
                  None if by_names else tuple(sorted(names[0].items())))


def slow_taught_of(pairs, order):
    """The Agreed or the Parting of the order."""
    paper = slow_taught(pairs)
    made = []
    if paper.places is not None:
        made.append(tuple(order.names[place] for place in paper.places))
    if paper.names is not None:
        made.append(tuple(dict(paper.names)[name] for name in order.names))
    return Agreed(made[0]) if len(set(made)) == 1 else Parting(*made)


def some_pairs(many, seed=1):
    """Lists of pairs, that fit both sorts, one, neither."""
    chance = random.Random(seed)
    found = []
    for _ in range(many):
        orders = all_orders(chance.randint(1, 5), ("d", "a", "e", "c", "b"))
        places = list(range(len(orders[0])))
        chance.shuffle(places)
        put = dict(zip(orders[0].names, chance.choice(orders).names))
        sort = chance.choice(("places", "names", "none"))
        pairs = []
        for _ in range(chance.randint(1, 4)):
            one = chance.choice(orders)
            if sort == "places":
                pairs.append((one, Order([one.names[place] for place in places])))
            elif sort == "names":
                pairs.append((one, Order([put[name] for name in one.names])))
            else:
                pairs.append((one, chance.choice(orders)))
        found.append(pairs)
    return found


PAIRS = some_pairs(400)


class TaughtTest(Case):
    def test_lists_of_pairs(self):
        seen = {}
        for pairs in PAIRS:
            wanted = slow_taught(pairs)
            self.same(taught(pairs), wanted)
            self.same(taught([list(pair) for pair in pairs]), wanted)
            kind = (wanted.word, wanted.places is None, wanted.names is None)
            seen[kind] = seen.get(kind, 0) + 1
        self.assertEqual(len(seen), 4)
        self.assertGreater(min(seen.values()), 20)

    def test_all_two_pairs_of_three(self):
        orders = all_orders(3)
        for a, b, c, d in itertools.product(orders[:2], orders, orders, orders):
            self.same(taught(((a, b), (c, d))), slow_taught([(a, b), (c, d)]))

    def test_what_is_taught_of_an_order(self):
        chance = random.Random(2)
        seen = set()
        for pairs in PAIRS:
            order = chance.choice(all_orders(len(pairs[0][0]), ("d", "a", "e", "c", "b")))
            order = chance.choice(all_orders(len(order), tuple(sorted(pairs[0][0].names))))
            paper = slow_taught(pairs)
            if paper:
                self.same(taught_of(pairs, order), slow_taught_of(pairs, order))
                seen.add((taught_of(pairs, order).word, paper.places is None, paper.names is None))
            else:
                self.raised(Impossible(paper), taught_of, pairs, order)
        self.assertEqual(seen, {("agreed", False, False), ("parting", False, False), ("agreed", True, False),
                                ("agreed", False, True)})

    def test_the_least_numbers(self):
        three = [Order(list(names)) for names in ("abcd", "bacd", "abdc", "dcba", "cabd")]
        pairs = [(three[0], three[0])] * 3 + [(three[0], three[1]), (three[0], three[2])]
        self.same(taught(pairs), Untaught((3, 0), (3, "a")))
        self.same(taught(pairs[:3] + pairs[4:]), Untaught((3, 2), (3, "c")))
        self.same(taught(pairs[:3]), Taught((0, 1, 2, 3), tuple((name, name) for name in "abcd")))

    def test_errors(self):
        for value in NO_PAIRS_OF_ORDERS:
            self.raised(BadOrder("pairs"), taught, value)
            self.raised(BadOrder("pairs"), taught_of, value, None)
        for value in NO_ORDERS:
            self.raised(BadOrder("order"), taught_of, [(AB, A)], value)
        for pairs, part in (([(AB, A)], "places"), ([(AB, AC)], "names"), ([(AB, BA), (AC, AC)], "names"),
                            ([(AB, BA), (A, A)], "places"), ([(AB, AC), (BA, A)], "places")):
            self.raised(Misfit(part), taught, pairs)
            self.raised(Misfit(part), taught_of, pairs, AB)
        self.raised(Misfit("places"), taught_of, [(AB, AC)], A)
        self.raised(Misfit("names"), taught_of, [(AB, BA)], AC)
        self.raised(Misfit("names"), taught_of, [(AB, AB), (AB, BA), (BA, BA)], AC)
