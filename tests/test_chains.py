"""Chains of proportions."""

import itertools
import random

from fourthlike.chains import Far, Part, far, is_chain
from fourthlike.doings import is_by_names, is_by_places
from fourthlike.errors import BadNumber, BadRow, Misfit, TooMany
from fourthlike.layings import is_like_words
from fourthlike.likenesses import fourth_of, is_proportion
from fourthlike.orders import Order
from fourthlike.rows import Row
from tests.helpers import NO_LISTS, ODD_VALUES, Case
from tests.test_orders import all_orders

LIKE = {"rows": is_proportion, "words": is_like_words, "places": is_by_places, "names": is_by_names}
ROWS = [Row(2, places) for places in itertools.product(range(2), repeat=2)]
WORDS = ["", "a", "b", "ab", "ba", "ac", "ca", "cb", "bc"]
THINGS = {"rows": ROWS, "words": WORDS, "places": all_orders(3), "names": all_orders(3)}
NO_KINDS = ODD_VALUES + (0, "", "row", "Rows", "orders", ["rows"], ("rows",), "rows ")


def some_chains(kind, many, seed):
    """Lists of pairs, most of them chains."""
    chance = random.Random(seed)
    found = []
    while len(found) < many:
        pairs = [tuple(chance.choices(THINGS[kind], k=2))]
        while len(pairs) < chance.randint(2, 8):
            nexts = [pair for pair in itertools.product(THINGS[kind], repeat=2) if LIKE[kind](*pairs[-1], *pair)]
            pairs.append(chance.choice(nexts))
        if chance.random() < 0.2:
            pairs[chance.randrange(len(pairs))] = tuple(chance.choices(THINGS[kind], k=2))
        if 2 <= len(pairs) <= 8:
            found.append(pairs)
    return found


class ChainsTest(Case):
    def test_chains_of_each_kind(self):
        for kind, like in LIKE.items():
            seen = set()
            for pairs in some_chains(kind, 60, 1):
                wanted = all(like(*one, *other) for one, other in zip(pairs, pairs[1:]))
                self.is_right(wanted, is_chain, kind, pairs)
                self.is_right(wanted, is_chain, kind, tuple(list(pair) for pair in pairs))
                if not wanted:
                    self.raised(BadRow("chain"), far, kind, pairs)
                    seen.add("none")
                    continue
                unlike = [(one, other) for one, other in itertools.combinations(range(len(pairs)), 2)
                          if not like(*pairs[one], *pairs[other])]
                self.same(far(kind, [list(pair) for pair in pairs]), Part(*unlike[0]) if unlike else Far())
                seen.add("part" if unlike else "far")
            self.assertEqual(seen, {"none", "far", "part"} if kind == "words" else {"none", "far"})

    def test_two_pairs_of_words_that_part_late(self):
        words = [("ac", "ca"), ("ab", "ba"), ("cb", "bc")]
        for ahead in range(6):
            pairs = words[:1] * ahead + words
            self.same(far("words", pairs).parts, (0, len(pairs) - 1))
        self.same(far("words", words[:2] * 3 + words[2:]).parts, (0, 6))
        self.same(far("words", words[1:] + words[2:] * 3 + words[1:2] + words[:1]).parts, (1, 6))

    def test_eight_pairs_and_nine(self):
        row = Row(2, [0])
        for many in range(12):
            pairs = [(row, row)] * many
            if 2 <= many <= 8:
                self.is_right(True, is_chain, "rows", pairs)
                self.same(far("rows", pairs), Far())
            else:
                self.raised(BadRow("pairs"), is_chain, "rows", pairs)
                self.raised(BadRow("pairs"), far, "rows", pairs)

    def test_wrong_kinds(self):
        for call in (is_chain, far):
            for kind in NO_KINDS:
                self.raised(BadNumber("kind"), call, kind, None)

    def test_wrong_pairs(self):
        row, word, order = Row(2, [0]), "a", Order(["a"])
        for kind, thing in (("rows", row), ("words", word), ("places", order), ("names", order)):
            pair = (thing, thing)
            for pairs in NO_LISTS + ("", "abab", [], [pair], [pair, thing], [pair, (thing,)], [pair, pair + pair[:1]],
                                     [pair, None], {pair: 1} if kind == "words" else {}):
                self.raised(BadRow("pairs"), is_chain, kind, pairs)
                self.raised(BadRow("pairs"), far, kind, pairs)
            others = [one for one in (row, word, order) if one is not thing] + list(ODD_VALUES) + [0, ["a"]]
            for other in others + (["A", "a b"] if kind == "words" else []):
                for at in range(4):
                    told = [thing] * 4
                    told[at] = other
                    self.raised(BadRow("pairs"), is_chain, kind, [told[:2], told[2:]])
                    self.raised(BadRow("pairs"), far, kind, [told[2:], told[:2]])

    def test_what_does_not_fit_in_two_neighbours(self):
        two, three, long = Row(2, [0]), Row(3, [0]), Row(2, [0, 1])
        other = Row(2, [1])
        for call in (is_chain, far):
            self.raised(Misfit("marks"), call, "rows", [(two, two), (two, three)])
            self.raised(Misfit("places"), call, "rows", [(two, two), (two, long)])
            # The first neighbours come first, whether or not those ahead are a proportion.
            self.raised(Misfit("places"), call, "rows", [(two, two), (two, long), (three, three)])
            self.raised(Misfit("marks"), call, "rows", [(two, two), (two, other), (two, two), (three, long)])
            self.raised(Misfit("marks"), call, "rows", [(two, long), (three, two)])
            ab, ac, a = Order(["a", "b"]), Order(["a", "c"]), Order(["a"])
            for kind in ("places", "names"):
                self.raised(Misfit("names"), call, kind, [(ab, ab), (ac, ac)])
                self.raised(Misfit("places"), call, kind, [(ab, ac), (ac, a)])
                self.raised(Misfit("names"), call, kind, [(ab, ab), (ac, ac), (a, a)])
                self.raised(Misfit("names"), call, kind, [(ab, ab), (ab, Order(["b", "a"])), (ab, ac)])
            self.raised(TooMany("letters", 12), call, "words", [("a", "a"), ("a", "b"), ("a", "a" * 13)])
            self.is_right(True, is_chain, "words", [("a" * 12, "a" * 12)] * 8)

    def test_bounds_come_shortly(self):
        pair = ("abababababab", "bababababaab")
        self.same(self.shortly(far, "words", [pair] * 8), Far())
        row = Row(4, [3, 2, 1, 0, 1, 2])
        self.same(self.shortly(far, "rows", [(row, row)] * 8), Far())
        self.assertTrue(fourth_of(row, row, row))
