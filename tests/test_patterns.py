"""Patterns, and the shared pattern of two terms."""

import itertools

from fourthlike.errors import BadPattern, BadTerm, BadText, TooMany
from fourthlike.patterns import Pattern, Shared, shared
from fourthlike.terms import Term
from tests.helpers import ODD_VALUES, Case
from tests.test_terms import NO_TERMS, chain, terms_up_to


def deep_tree(many, end=0):
    tree = end
    for _ in range(many):
        tree = ["f", tree]
    return tree


def shared_by_hand(one, other, pairs):
    """The text of the shared pattern, by the words of the document."""
    if one.head == other.head and len(one.parts) == len(other.parts):
        parts = [shared_by_hand(*both, pairs) for both in zip(one.parts, other.parts)]
        return one.head + (" ( " + " , ".join(parts) + " )" if parts else "")
    pair = (str(one), str(other))
    if pair not in pairs:
        pairs.append(pair)
    return "#" + str(pairs.index(pair))


class PatternsTest(Case):
    def test_attributes(self):
        for tree, holes, size in ((0, 1, 1), (["a"], 0, 1), (["f", 0, ["g", 0]], 1, 4), (("f", 1, 0), 2, 3),
                                  (["f", ("a",), ["b"], 0], 1, 4), (["f", 1, 0, 1], 2, 4)):
            pattern = Pattern(tree)
            self.same((pattern.holes, pattern.size), (holes, size))
        self.same(Pattern(["f", ["g", 0], ["a"]]).tree, ("f", ("g", 0), ("a",)))
        self.same(Pattern(0).tree, 0)
        self.same(Pattern(tree=("a",)).tree, ("a",))

    def test_what_is_passed_is_copied(self):
        inner = ["g", 0]
        tree = ["f", inner]
        pattern = Pattern(tree)
        inner.append(1)
        tree.append(7)
        self.same(pattern.tree, ("f", ("g", 0)))

    def test_what_is_no_tree(self):
        for tree in ODD_VALUES + (-1, "", "f", "a", "#0", [], (), [0], [[]], [0, 0], ["f", -1], ["f", True],
                                  ["f", False],
                                  ["f", "a"], ["f", None], ["f", []], ["F"], [""], ["1a"], ["f", 0, 0, 0, 0], [["f"]],
                                  ["f", ["g", ["h", "a"]]], ["f", 1.0], ["f", Term("a")], Term("a"), Pattern(0), [None],
                                  ["f", ["g", 0, 0, 0, 0]], ["abcdefghijklm"], {"f": 0}, ["f"] * 100000, [1, "f"]):
            self.raised(BadPattern("tree"), Pattern, tree)
        self.raised(BadPattern("tree"), Pattern, ["f", 5, ["g", -1]])
        self.raised(BadPattern("tree"), Pattern, deep_tree(58, []))

    def test_holes_left_out(self):
        for tree in (1, ["f", 1], ["f", 0, 2], ["f", 1, 2], ["f", 10 ** 40], ["f", 0, ["g", 3, 1]], deep_tree(40, 1)):
            self.raised(BadPattern("holes"), Pattern, tree)

    def test_heads_and_holes_up_to_24(self):
        self.same(Pattern(deep_tree(23)).size, 24)
        self.raised(TooMany("heads", 24), Pattern, deep_tree(24))
        self.raised(TooMany("heads", 24), Pattern, deep_tree(59))
        self.raised(TooMany("heads", 24), Pattern, deep_tree(24, ["a"]))
        many = ["f", 0, 0, ["f", 0, 0, ["f", 0, 0, ["f", 0, 0, ["f", 0, 0, ["f", 0, 0, ["f", 0, 0, ["f", 0, 0]]]]]]]]
        self.same(Pattern(many).size, 24)
        self.raised(TooMany("heads", 24), Pattern, ["f", many])
        self.raised(TooMany("heads", 24), Pattern, ["f", many, many, many])

    def test_equality(self):
        self.assertEqual(Pattern(["f", 0, ["a"]]), Pattern(("f", 0, ("a",))))
        self.assertNotEqual(Pattern(["f", 0, 1]), Pattern(["f", 1, 0]))
        self.assertNotEqual(Pattern(["f", 0]), Pattern(["g", 0]))
        self.assertNotEqual(Pattern(0), Pattern(["a"]))
        for value in ODD_VALUES + (0, ("a",), Term("a"), "a"):
            self.assertFalse(Pattern(["a"]) == value)
            self.assertFalse(Pattern(0) == value)

    def test_texts(self):
        for tree, text in ((0, "#0"), (["a"], "a"), (["f", 0, ["g", 0]], "f ( #0 , g ( #0 ) )"),
                           (["f", 1, 0, ["a"]], "f ( #1 , #0 , a )")):
            self.assertEqual(str(Pattern(tree)), text)
            self.assertEqual(Pattern.read(text), Pattern(tree))
        for term in terms_up_to(4):
            self.assertEqual(str(Pattern.of(term)), str(term))
            self.assertEqual(Pattern.read(str(term)), Pattern.of(term))

    def test_texts_with_heads_that_end_like_holes(self):
        for text in ("a0", "f0 ( a0 , #0 )", "f ( #0 , a1 , #1 )"):
            self.assertEqual(str(Pattern.read(text)), text)
        self.same(Pattern.read("a0").tree, ("a0",))
        self.same(Pattern.read("f ( a0 )").holes, 0)

    def test_bent_texts(self):
        for text, item in [
                ("", 0), ("#", 0), ("#1", 0), ("#00", 0), ("#01", 0), ("#-1", 0), ("#a", 0), ("# 0", 0), ("#24", 0),
                ("#0 ", 1),
                ("#0 #0", 1), ("#0 (", 1), ("#0 ( a )", 1), ("f ( #0 ( a ) )", 3), ("f ( #1 )", 3),
                ("f ( #1 , #0 )", None),
                ("f ( #0 , #2 )", 5), ("f ( #0 , #2", 5), ("f ( #0 , #2 ,", 6), ("f ( #23 )", 3), ("f ( #24 )", 2),
                ("f ( #100 )", 2), ("f ( #0 , #0 , #0 )", None), ("f ( #0 , #0 , #0 , #0 )", 7), ("f #0", 1),
                ("f ( #0", 3),
                ("f ( 0 )", 2), ("f ( #0\n )", 2), ("f ( #0 )\n", 3), ("f ( ##0 )", 2), ("#0 )", 1),
                ("f ( #2 , g ( #1 ) )", 8),
                ("f ( #" + "0" * 70 + " )", 2), ("#" + "1" * 61, 0), ("f ( #1 ) )", 4), ("f ( #1 ) a", 4),
                ("F ( #0 )", 0)]:
            if item is None:
                self.assertEqual(str(Pattern.read(text)), text)
            else:
                self.raised(BadText(0, item), Pattern.read, text)
        for value in ODD_VALUES + (0, 1, ["#0"], Pattern(0)):
            self.raised(BadText(0, 0), Pattern.read, value)

    def test_a_25th_head_or_hole_in_a_text(self):
        self.assertEqual(Pattern.read("f ( " * 23 + "#0" + " )" * 23).size, 24)
        self.raised(BadText(0, 48), Pattern.read, "f ( " * 24 + "#0" + " )" * 24)
        self.raised(BadText(0, 48), Pattern.read, "f ( " * 24 + "a" + " )" * 24)
        self.raised(BadText(0, 48), Pattern.read, "f ( " * 24 + "#24")

    def test_filled(self):
        a, b = Term("a"), Term.read("g ( a )")
        pattern = Pattern(["f", 1, ["h", 0], 1])
        self.assertEqual(str(pattern.filled([a, b])), "f ( g ( a ) , h ( a ) , g ( a ) )")
        self.assertEqual(pattern.filled((a, b)), pattern.filled([a, b]))
        self.assertEqual(Pattern(0).filled([b]), b)
        self.assertEqual(Pattern(["a"]).filled([]), a)
        for filling in ODD_VALUES + (0, [], [a], [a, b, a], (a, None), [a, "b"], "ab", a, [[a], b], {0: a, 1: b},
                                     [a, Pattern(["a"])]):
            self.raised(BadTerm("filling"), pattern.filled, filling)
        self.raised(BadTerm("filling"), Pattern(["a"]).filled, None)
        self.raised(BadTerm("filling"), Pattern(["a"]).filled, [a])
        self.same(Pattern(["f", 0]).filled([chain(23)]).size, 24)
        self.raised(TooMany("heads", 24), Pattern(["f", 0]).filled, [chain(24)])
        self.raised(TooMany("heads", 24), Pattern(["f", 0, 0]).filled, [chain(12)])
        self.raised(TooMany("heads", 24), Pattern(deep_tree(23)).filled, [chain(24)])

    def test_patterns_of_terms(self):
        for term in terms_up_to(4):
            pattern = Pattern.of(term)
            self.same((pattern.holes, pattern.size), (0, term.size))
            self.assertEqual(pattern.filled(()), term)
            self.assertEqual(pattern.covers(term), ())
        for value in NO_TERMS:
            self.raised(BadTerm("term"), Pattern.of, value)

    def test_covers(self):
        terms = terms_up_to(4)
        patterns = [Pattern(tree) for tree in (0, ["a"], ["f", 0], ["f", 0, 0], ["f", 1, 0], ["g", 0, ["a"]],
                                               ["f", ["g", 0]],
                                               ["f", 0, ["f", 0]], ["f", 0, 1, 0])]
        for pattern in patterns:
            fillings = {}
            for filling in itertools.product(terms[:30], repeat=pattern.holes):
                fillings[str(pattern.filled(filling))] = filling
            for term in terms:
                found = pattern.covers(term)
                if found is not None:
                    self.assertIs(type(found), tuple)
                    self.assertEqual(pattern.filled(found), term)
                else:
                    self.assertNotIn(str(term), fillings)
            for text, filling in fillings.items():
                self.assertEqual(pattern.covers(Term.read(text)), filling)
        for value in NO_TERMS:
            self.raised(BadTerm("term"), Pattern(0).covers, value)

    def test_shared(self):
        terms = terms_up_to(4)
        for one, other in itertools.product(terms, terms[::3]):
            found = shared(one, other)
            pairs = []
            self.assertEqual(str(found.pattern), shared_by_hand(one, other, pairs))
            self.assertEqual([(str(mine), str(its)) for mine, its in zip(found.mine, found.its)], pairs)
            self.assertIs(type(found), Shared)
            self.assertEqual((found.pattern.covers(one), found.pattern.covers(other)), (found.mine, found.its))
            self.assertIs(found.pattern.holes == 0, one == other)
            for mine, its in zip(found.mine, found.its):
                self.assertNotEqual((mine.head, len(mine.parts)), (its.head, len(its.parts)))

    def test_shared_pairs_are_one_hole(self):
        found = shared(Term.read("f ( a , b , g ( a , b ) )"), Term.read("f ( b , a , g ( b , b ) )"))
        self.assertEqual(str(found.pattern), "f ( #0 , #1 , g ( #0 , b ) )")
        found = shared(Term.read("f ( a , a )"), Term.read("f ( b , c )"))
        self.assertEqual(str(found.pattern), "f ( #0 , #1 )")
        found = shared(Term.read("f ( a )"), Term.read("f ( a , a )"))
        self.assertEqual(str(found.pattern), "#0")
        self.assertEqual(shared(chain(24), chain(24, Term("b"))).pattern.size, 24)

    def test_shared_of_no_terms(self):
        for value in NO_TERMS:
            self.raised(BadTerm("one"), shared, value, value)
            self.raised(BadTerm("other"), shared, Term("a"), value)
