"""Whether papers on terms are right."""

import itertools
from unittest.mock import ANY

from fourthlike.check_terms import shows_bearing, shows_no_term
from fourthlike.errors import BadTerm, TooMany
from fourthlike.papers import Denial, Paper
from fourthlike.patterns import Pattern, shared
from fourthlike.termfourths import Bearing, NoTerm, many_term_fourths
from fourthlike.terms import Term, inner_terms
from tests.helpers import Case
from tests.test_terms import NO_TERMS, chain, terms_up_to
from tests.test_termfourths import bearing_patterns, cut_trees, holes_of

read = Term.read
NO_PAPERS = NO_TERMS[:-1] + (Paper("bearing", 0, 0, (), ()), Denial("noterm", 0), Bearing, NoTerm, (0,), -1)


class CheckTermsTest(Case):
    def test_bearings_by_any_patterns(self):
        terms = terms_up_to(3, "ab", "f")
        seen = 0
        for a, b, c in itertools.product(terms[2:12], terms[:12], terms[2:]):
            for p, mine, its in bearing_patterns(a, c):
                for tree in cut_trees(b, mine):
                    if len(holes_of(tree)) == p.holes:
                        q = Pattern(tree)
                        d = q.filled(its)
                        self.is_right(True, shows_bearing, a, b, c, d, Bearing(p, q, mine, its))
                        seen += 1
        self.assertGreater(seen, 400)

    def test_bent_bearings(self):
        a, b, c, d = read("f ( x , y )"), read("g ( y , x )"), read("f ( u , v )"), read("g ( v , u )")
        x, y, u, v = [read(text) for text in "xyuv"]
        p, q = Pattern(["f", 0, 1]), Pattern(["g", 1, 0])
        self.is_right(True, shows_bearing, a, b, c, d, Bearing(p, q, [x, y], [u, v]))
        self.is_right(True, shows_bearing, a, b, c, d, Bearing(Pattern(["f", 1, 0]), Pattern(["g", 0, 1]), [y, x],
                                                               [v, u]))
        for bad in (Pattern(["f", 1, 0]), Pattern(["f", 0, 0]), Pattern(0), Pattern(["f", ["x"], 0]), Pattern.of(a), a,
                    None,
                    ("f", 0, 1), "f ( #0 , #1 )", 0, [p], Pattern(["f", 0, 1, 1]), Pattern(["f", 0, 1, 2]), q):
            self.is_right(False, shows_bearing, a, b, c, d, Bearing(bad, q, [x, y], [u, v]))
        for bad in (Pattern(["g", 0, 1]), Pattern(["g", 0, 0]), Pattern(0), Pattern.of(b), b, None, ("g", 1, 0), p,
                    [q], 1):
            self.is_right(False, shows_bearing, a, b, c, d, Bearing(p, bad, [x, y], [u, v]))
        for bad in ([y, x], [x], [x, y, x], [], None, "xy", [x, "y"], [x, None], ["x", "y"], x, 2, [[x], y],
                    {0: x, 1: y},
                    [Pattern(["x"]), y], [u, v], [x, x]):
            self.is_right(False, shows_bearing, a, b, c, d, Bearing(p, q, bad, [u, v]))
        for bad in ([v, u], [u], [u, v, u], [], None, "uv", [u, "v"], [u, None], [x, y], u, 2, [[u], v], {0: u, 1: v}):
            self.is_right(False, shows_bearing, a, b, c, d, Bearing(p, q, [x, y], bad))
        good = Bearing(p, q, [x, y], [u, v])
        for at in range(4):
            for other in (read("z"), read("f ( x , x )"), read("g ( y , y )"), read("f ( u , u )"),
                          read("g ( v , v )")):
                four = [a, b, c, d]
                four[at] = other
                self.is_right(False, shows_bearing, *four, good)
        for bad in (Bearing(ANY, q, [x, y], [u, v]), Bearing(p, ANY, [x, y], [u, v]), Bearing(p, q, ANY, [u, v]),
                    Bearing(p, q, [x, y], ANY), Bearing(p, q, [ANY, y], [u, v]), Bearing(p, q, [x, y], [u, ANY]), ANY):
            self.is_right(False, shows_bearing, a, b, c, d, bad)
        for at, four in enumerate(itertools.permutations((a, b, c, d))):
            self.is_right(at == 0, shows_bearing, *four, good)
        for bad in NO_PAPERS + (Paper("bearing", *good.parts), Denial("bearing", *good.parts), NoTerm(0), shared(a, c),
                                good.parts, list(good.parts)):
            self.is_right(False, shows_bearing, a, b, c, d, bad)

    def test_bearings_with_more_or_fewer_holes(self):
        a, b = read("f ( a )"), read("g ( a , b )")
        whole = Bearing(Pattern(0), Pattern(0), [a], [b])
        self.is_right(True, shows_bearing, a, a, b, b, whole)
        self.is_right(False, shows_bearing, a, b, b, b, whole)
        none = Bearing(Pattern.of(a), Pattern.of(b), [], [])
        self.is_right(True, shows_bearing, a, b, a, b, none)
        self.is_right(True, shows_bearing, a, b, a, b, Bearing(Pattern.of(a), Pattern.of(b), (), ()))
        self.is_right(False, shows_bearing, a, b, a, a, none)
        self.is_right(False, shows_bearing, a, b, a, b, Bearing(Pattern(0), Pattern.of(b), [a], [a]))
        self.is_right(False, shows_bearing, a, b, a, b, Bearing(Pattern.of(a), Pattern(0), [b], [b]))
        self.is_right(True, shows_bearing, a, b, a, b, Bearing(Pattern(["f", 0]), Pattern(["g", 0, ["b"]]),
                                                               [read("a")], [read("a")]))
        long, other = chain(24), chain(24, Term("b"))
        deep = ["f", 0]
        for _ in range(22):
            deep = ["f", deep]
        self.is_right(True, shows_bearing, long, long, other, other,
                      Bearing(Pattern(deep), Pattern(deep), [read("a")], [read("b")]))
        self.is_right(False, shows_bearing, long, long, other, other,
                      Bearing(Pattern(deep), Pattern(deep), [long], [other]))

    def test_every_small_no_term(self):
        terms = terms_up_to(3, "abc", "f")
        seen = set()
        for a, b, c in itertools.product(terms, repeat=3):
            firsts = shared(a, c).mine
            lacking = [hole for hole, first in enumerate(firsts) if first not in inner_terms(b)]
            for hole in range(-1, len(firsts) + 1):
                self.is_right(hole in lacking, shows_no_term, a, b, c, NoTerm(hole))
            none = not lacking and many_term_fourths(a, b, c) == 0
            self.is_right(none, shows_no_term, a, b, c, NoTerm(None))
            seen.add((len(lacking), none))
        self.assertEqual(seen, {(0, False), (0, True), (1, False), (2, False)})

    def test_bent_no_terms(self):
        a, c = read("f ( x , y )"), read("f ( u , v )")
        for b, right in ((read("x"), [1]), (read("y"), [0]), (read("z"), [0, 1]), (read("g ( x , y )"), []), (a, [])):
            for hole in (0, 1, 2, -1, -2, True, False, None, 0.0, 1.0, "0", [0], (1,), 10 ** 40, Term("x"), ANY):
                wanted = isinstance(hole, int) and not isinstance(hole, bool) and hole in right
                self.is_right(wanted, shows_no_term, a, b, c, NoTerm(hole))
            for bad in NO_PAPERS + (Paper("noterm", 0), Denial("noterm", 1), Bearing(Pattern(0), Pattern(0), [b], [b])):
                self.is_right(False, shows_no_term, a, b, c, bad)
        a, b, c = read("f ( x , h ( x ) )"), read("h ( x )"), read("f ( y , k )")
        self.is_right(True, shows_no_term, a, b, c, NoTerm(None))
        for hole in (0, 1, 2, False, "", ()):
            self.is_right(False, shows_no_term, a, b, c, NoTerm(hole))
        self.is_right(False, shows_no_term, a, b, a, NoTerm(None))
        self.is_right(False, shows_no_term, a, b, a, NoTerm(0))

    def test_errors_of_the_other_arguments(self):
        good = Term("a")
        for call, names in ((shows_bearing, "abcd"), (shows_no_term, "abc")):
            for value in (None, NoTerm(0), Bearing(Pattern(0), Pattern(0), [good], [good])):
                for at, name in enumerate(names):
                    for bad in NO_TERMS:
                        self.raised(BadTerm(name), call, *([good] * at), *([bad] * (len(names) - at)), value)
        a, c = read("f ( p , q , f ( r , s , t ) )"), read("f ( p1 , q1 , f ( r1 , s1 , t1 ) )")
        for value in (None, NoTerm(0), NoTerm(None)):
            self.raised(TooMany("holes", 4), shows_no_term, a, good, c, value)
        self.raised(BadTerm("b"), shows_no_term, a, None, c, None)
        found = shared(a, c)
        self.is_right(True, shows_bearing, a, a, c, c, Bearing(found.pattern, found.pattern, found.mine, found.its))
