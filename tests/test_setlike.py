"""Proportions and fourths of sets of names."""

import itertools

from fourthlike.errors import BadRow, Twice
from fourthlike.setlike import FourthSet, Outside, fourth_set, is_like_sets
from tests.helpers import NO_LISTS, NO_NAMES, Case

SETS = [list(some) for many in range(4) for some in itertools.combinations(["b", "a", "c1"], many)]


def is_slowly_like(a, b, c, d):
    """By the words of the document."""
    return set(a) & set(d) == set(b) & set(c) and set(a) | set(d) == set(b) | set(c)


class SetlikeTest(Case):
    def test_all_fours_of_small_sets(self):
        for a, b, c in itertools.product(SETS, repeat=3):
            right = [d for d in SETS if is_slowly_like(a, b, c, d)]
            for d in SETS:
                self.is_right(d in right, is_like_sets, a, tuple(b), c[::-1], d)
            found = fourth_set(a, tuple(b), c[::-1])
            if right:
                self.assertEqual(len(right), 1)
                self.assertIs(type(found), FourthSet)
                self.same(found.names, tuple(sorted(right[0])))
            else:
                outside = [name for name in set(a + b + c)
                           if name in b and name in c and name not in a or name in a and name not in b + c]
                self.assertIs(type(found), Outside)
                self.same(found.name, min(outside))
            self.assertEqual(fourth_set(a, c, b), found)

    def test_papers(self):
        self.same(fourth_set([], [], []).parts, ((),))
        self.same(FourthSet(names=["a"]).names, ("a",))
        self.same(Outside(name="a").parts, ("a",))
        self.same((FourthSet([]).word, Outside("a").word), ("fourthset", "outside"))
        self.same((bool(FourthSet([])), bool(Outside("a"))), (True, False))
        self.same(fourth_set(["z", "b"], ["z"], ["y", "b", "a"]).parts, (("a", "y"),))
        self.same(fourth_set(["z", "x"], [], ["a"]).name, "x")
        self.same(fourth_set(["x"], ["d", "c"], ["c", "d"]).name, "c")

    def test_errors(self):
        for call, many in ((is_like_sets, 4), (fourth_set, 3)):
            for at in range(many):
                part = "abcd"[at]
                behind = [["a", "a"]] * (many - at - 1)
                ahead = [["a"]] * at
                for value in NO_LISTS + ("a", "", {"a": 1}):
                    self.raised(BadRow(part), call, *ahead, value, *behind)
                    self.raised(BadRow(part), call, *ahead, value, *[None] * len(behind))
                for name in NO_NAMES:
                    self.raised(BadRow(part), call, *ahead, ["a", "a", name], *behind)
                self.raised(Twice("b"), call, *ahead, ["c", "b", "a", "b", "a"], *[None] * len(behind))
                self.raised(Twice("b"), call, *ahead, ("b", "b"), *behind)

    def test_big_sets(self):
        names = ["x%d" % number for number in range(20000)]
        self.assertTrue(self.shortly(is_like_sets, names[5000:10000], names[:10000], names[5000:], names))
        self.same(self.shortly(fourth_set, names[5000:10000], names[:10000], names[5000:]).names, tuple(sorted(names)))
