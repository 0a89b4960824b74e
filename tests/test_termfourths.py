"""Fourths of terms."""

import itertools

from fourthlike.check_terms import shows_bearing, shows_no_term
from fourthlike.errors import BadTerm, TooMany
from fourthlike.patterns import Pattern, shared
from fourthlike.termfourths import (Bearing, NoTerm, bearing_of, fourths_of_terms, is_like_terms, many_term_fourths,
                                    no_term)
from fourthlike.terms import Term, inner_terms
from tests.helpers import Case
from tests.test_terms import NO_TERMS, chain, terms_up_to

read = Term.read


def cut_trees(term, terms):
    """All trees that the term becomes if inner terms give way to the numbers of terms equal to them."""
    found = [number for number, one in enumerate(terms) if one == term]
    parts = [cut_trees(part, terms) for part in term.parts]
    return found + [(term.head, *told) for told in itertools.product(*parts)]


def holes_of(tree):
    return {tree} if isinstance(tree, int) else set().union(*[holes_of(part) for part in tree[1:]])


def bearing_patterns(a, c):
    """All patterns with up to two holes that cover both terms, with their fillings, in whatever order."""
    found = []
    different = []
    for one in inner_terms(a):
        if one not in different:
            different.append(one)
    for many in range(3):
        for mine in itertools.product(different, repeat=many):
            for tree in cut_trees(a, mine):
                if len(holes_of(tree)) == many:
                    pattern = Pattern(tree)
                    its = pattern.covers(c)
                    if its is not None:
                        found.append((pattern, mine, its))
    return found


def slow_fourths(a, b, c):
    """The texts of all fourths that patterns with up to two holes bear."""
    found = set()
    for pattern, mine, its in bearing_patterns(a, c):
        for tree in cut_trees(b, mine):
            if len(holes_of(tree)) == pattern.holes:
                found.add(str(Pattern(tree).filled(its)))
    return found


class TermFourthsTest(Case):
    def look_at(self, a, b, c):
        """Fails unless all that is told of the fourths of a, b, c is right; returns the texts of these."""
        found = fourths_of_terms(a, b, c)
        texts = [str(one.q.filled(one.its)) for one in found]
        self.assertEqual(texts, sorted(set(texts)))
        self.same(many_term_fourths(a, b, c), len(texts))
        left = shared(a, c)
        for one, text in zip(found, texts):
            self.assertEqual(one, Bearing(left.pattern, one.q, left.mine, left.its))
            self.is_right(True, shows_bearing, a, b, c, read(text), one)
            self.assertEqual(bearing_of(a, b, c, read(text)), one)
            self.is_right(True, is_like_terms, a, b, c, read(text))
        none = no_term(a, b, c)
        if texts:
            self.assertIsNone(none)
        else:
            lacking = [hole for hole, first in enumerate(left.mine) if first not in inner_terms(b)]
            self.assertEqual(none, NoTerm(min(lacking, default=None)))
            self.is_right(True, shows_no_term, a, b, c, none)
        return set(texts)

    def test_all_fourths_of_small_terms(self):
        terms = terms_up_to(3, "ab", "f")
        counts = set()
        for a, b, c in itertools.product(terms, repeat=3):
            texts = self.look_at(a, b, c)
            self.assertEqual(texts, slow_fourths(a, b, c))
            counts.add(len(texts))
        self.assertTrue({0, 1, 3} <= counts)

    def test_fourths_of_greater_terms(self):
        for a, b, c in (("f ( a , g ( a ) )", "h ( a , g ( a ) , a )", "f ( b , k )"),
                        ("f ( x , h ( x ) )", "g ( h ( x ) , x , h ( x ) )", "f ( y , k )"),
                        ("f ( a , b )", "g ( b , a , h ( a ) )", "f ( b , a )"),
                        ("f ( a , a )", "g ( a , a , a )", "f ( b , c )"),
                        ("f ( a , a )", "g ( a )", "f ( b , c )"),
                        ("a", "f ( a , a , f ( a , a , a ) )", "f ( a )"),
                        ("f ( x , h ( x ) )", "h ( x )", "f ( y , k )")):
            self.assertEqual(self.look_at(read(a), read(b), read(c)), slow_fourths(read(a), read(b), read(c)))

    def test_likeness_of_small_terms(self):
        terms = terms_up_to(3, "ab", "f")[:12]
        held = 0
        for a, b, c in itertools.product(terms, repeat=3):
            texts = slow_fourths(a, b, c)
            for d in terms:
                self.is_right(str(d) in texts, is_like_terms, a, b, c, d)
                found = bearing_of(a, b, c, d)
                self.assertIs(found is None, str(d) not in texts)
                if found is not None:
                    held += 1
                    self.is_right(True, is_like_terms, c, d, a, b)
                    self.is_right(True, is_like_terms, b, a, d, c)
                    self.assertEqual(found.p, shared(a, c).pattern)
                    self.is_right(True, shows_bearing, a, b, c, d, found)
            self.is_right(True, is_like_terms, a, b, a, b)
            self.is_right(True, is_like_terms, a, a, c, c)
        self.assertGreater(held, 300)

    def test_middles_exchanged_and_chains_break(self):
        self.is_right(True, is_like_terms, read("f ( a , a )"), read("a"), read("f ( b , b )"), read("b"))
        self.is_right(False, is_like_terms, read("f ( a , a )"), read("f ( b , b )"), read("a"), read("b"))
        gx, gy, gz = read("g ( x , x )"), read("g ( y , y )"), read("g ( z , y )")
        x, y, z = read("x"), read("y"), read("z")
        self.is_right(True, is_like_terms, gx, x, gy, y)
        self.is_right(True, is_like_terms, gy, y, gz, z)
        self.is_right(False, is_like_terms, gx, x, gz, z)

    def test_a_bearing_with_holes_in_another_order(self):
        found = bearing_of(read("f ( a , b )"), read("g ( b , a )"), read("f ( c , d )"), read("g ( d , c )"))
        self.assertEqual((str(found.p), str(found.q)), ("f ( #0 , #1 )", "g ( #1 , #0 )"))
        self.assertEqual(([str(one) for one in found.mine], [str(one) for one in found.its]), (["a", "b"], ["c", "d"]))
        self.assertIs(bearing_of(read("a"), read("b"), read("a"), read("c")), None)
        found = bearing_of(read("a"), read("b"), read("a"), read("b"))
        self.assertEqual(found, Bearing(Pattern(["a"]), Pattern(["b"]), [], []))

    def test_no_fourth(self):
        self.assertEqual(no_term(read("f ( a , b )"), read("b"), read("f ( c , d )")), NoTerm(0))
        self.assertEqual(no_term(read("f ( a , b )"), read("a"), read("f ( c , d )")), NoTerm(1))
        self.assertEqual(no_term(read("f ( a , b )"), read("c"), read("f ( c , d )")), NoTerm(0))
        self.assertEqual(no_term(read("f ( a , a )"), read("a"), read("f ( c , d )")), NoTerm(None))
        self.assertEqual(no_term(read("f ( a , a )"), read("g ( a , a )"), read("f ( c , d )")), None)

    def test_more_holes_than_four(self):
        a = read("f ( p , q , f ( r , s , t ) )")
        c = read("f ( p1 , q1 , f ( r1 , s1 , t1 ) )")
        four = read("f ( p1 , q1 , f ( r1 , s1 , t ) )")
        for call in (many_term_fourths, fourths_of_terms, no_term):
            self.raised(TooMany("holes", 4), call, a, read("a"), c)
            call(a, read("a"), four)
        self.assertEqual(self.look_at(a, a, four), {str(four)})
        self.is_right(True, is_like_terms, a, a, c, c)
        self.assertEqual(bearing_of(a, a, c, c).p.holes, 5)

    def test_many_fourths(self):
        leaf, other = Term("a"), Term("b")
        nine = Term("f", [Term("f", [leaf] * 3)] * 3)
        self.same(many_term_fourths(leaf, nine, other), 511)
        self.raised(TooMany("fourths", 400), fourths_of_terms, leaf, nine, other)
        eight = Term("f", [Term("f", [leaf] * 3), Term("f", [leaf] * 3), Term("f", [leaf] * 2)])
        self.same(many_term_fourths(leaf, eight, other), 255)
        self.assertEqual(len(self.look_at(leaf, eight, other)), 255)
        more = Term("g", [eight, leaf])
        self.same(many_term_fourths(leaf, more, other), 511)
        self.raised(TooMany("fourths", 400), fourths_of_terms, leaf, more, Term("f", [chain(20)]))
        five = read("g ( a , a , g ( a , a , a ) )")
        self.assertEqual(len(self.look_at(read("f ( a , a , a )"), five, read("f ( b , c , d )"))), 390)
        nest = read("g ( g ( g ( x , g ( x ) , y ) , g ( g ( x ) ) , x ) , g ( x ) , g ( g ( x ) ) )")
        told = read("f ( g ( x ) , x , f ( g ( g ( x ) ) , x ) )"), nest, read("f ( b , c , f ( d , e ) )")
        self.same(many_term_fourths(*told), 402)
        self.raised(TooMany("fourths", 400), fourths_of_terms, *told)
        row = Term("f", [leaf, leaf, Term("f", [leaf, leaf, Term("f",
                                                                 [leaf, leaf,
                                                                  Term("f", [leaf, leaf, Term("f", [leaf] * 3)])])])])
        self.same(many_term_fourths(leaf, row, other), 2 ** 11 - 1)
        self.assertIsNone(no_term(leaf, row, other))
        same = read("f ( a , a , f ( a , a ) )")
        wide = Term("f", [row, leaf, leaf])
        self.same(self.shortly(many_term_fourths, same, wide, read("f ( b , c , f ( d , e ) )")),
                  sum((-1) ** (4 - some) * count * (some + 1) ** 13 for some, count in zip(range(5), (1, 4, 6, 4, 1))))

    def test_few_of_many_choices(self):
        # The whole y gives way at once, so what could be chosen in it must not be listed.
        y = Term("g", [Term("h", [Term("x")] * 3)] * 3)
        a = Term("f", [Term("x"), y])
        b = Term("f", [y, Term("x")])
        c = Term("f", [Term("u"), Term("v")])
        self.assertEqual(self.shortly(many_term_fourths, a, b, c), 1)
        self.assertEqual([str(one.q) for one in self.shortly(fourths_of_terms, a, b, c)], ["f ( #1 , #0 )"])

    def test_fourths_with_too_many_heads(self):
        leaf = Term("a")
        b = Term("f", [leaf, leaf])
        self.assertEqual(len(self.look_at(leaf, b, chain(11))), 3)
        self.same(many_term_fourths(leaf, b, chain(12)), 3)
        self.raised(TooMany("heads", 24), fourths_of_terms, leaf, b, chain(12))
        self.raised(TooMany("heads", 24), fourths_of_terms, leaf, chain(24), Term("f", [leaf]))
        self.assertIsNone(no_term(leaf, b, chain(12)))
        self.assertEqual(len(self.look_at(leaf, chain(24), Term("b"))), 1)

    def test_what_is_no_term(self):
        good = Term("a")
        for call, names in ((is_like_terms, "abcd"), (bearing_of, "abcd"), (many_term_fourths, "abc"),
                            (fourths_of_terms, "abc"), (no_term, "abc")):
            for at, name in enumerate(names):
                for bad in NO_TERMS:
                    self.raised(BadTerm(name), call, *([good] * at), *([bad] * (len(names) - at)))

    def test_short_answers(self):
        leaf = Term("a")
        same = read("f ( a , a , f ( a , a ) )")
        four = read("f ( b , c , f ( d , e ) )")
        row = Term("f", [leaf, leaf, Term("f", [leaf, leaf, Term("f", [leaf, leaf])])])
        for b in (row, Term("f", [leaf, leaf, Term("f", [leaf, leaf])]),
                  Term("f", [leaf, leaf, Term("f", [leaf, Term("f", [leaf, leaf])])])):
            many = self.shortly(many_term_fourths, same, b, four)
            if many <= 400:
                self.assertEqual(len(self.shortly(fourths_of_terms, same, b, four)), many)
            else:
                self.raised(TooMany("fourths", 400), fourths_of_terms, same, b, four)
