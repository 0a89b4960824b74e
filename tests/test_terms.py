"""Terms."""

import itertools
import random

from fourthlike.errors import BadTerm, BadText, TooMany
from fourthlike.patterns import Pattern
from fourthlike.terms import Term, heads_of, inner_terms
from tests.helpers import NO_LISTS, ODD_VALUES, Case

NO_TERMS = ODD_VALUES + (0, 1, "", "a", "f ( a )", [], ["f", "a"], ("a",), [Term("a")], Pattern(["a"]), Term)


def terms_up_to(size, leaves="ab", heads="fg"):
    """All terms of at most so many heads, with up to three parts."""
    by_size = {1: [Term(head) for head in leaves]}
    for many in range(2, size + 1):
        by_size[many] = []
        for parts in itertools.product(range(many), repeat=3):
            sizes = [one for one in parts if one]
            if list(parts) != sizes + [0] * (3 - len(sizes)) or sum(sizes) != many - 1:
                continue
            for told in itertools.product(*[by_size[one] for one in sizes]):
                by_size[many].extend(Term(head, told) for head in heads)
    return [term for many in sorted(by_size) for term in by_size[many]]


def chain(many, end=None):
    """A term of so many heads, each one the part of the one ahead."""
    term = end or Term("a")
    for _ in range(many - 1):
        term = Term("f", [term])
    return term


def some_tree(chance, many):
    """A tree of so many heads, by chance."""
    parts = []
    left = many - 1
    while left > 0:
        size = left if len(parts) == 2 else chance.randint(1, left)
        parts.append(some_tree(chance, size))
        left -= size
    return (chance.choice("fgh"), *parts)


def tree_text(tree):
    parts = " , ".join(tree_text(part) for part in tree[1:])
    return tree[0] + (" ( " + parts + " )" if parts else "")


def slow_text(term):
    if not term.parts:
        return term.head
    return term.head + " ( " + " , ".join(slow_text(part) for part in term.parts) + " )"


class TermsTest(Case):
    def test_attributes(self):
        for term in terms_up_to(5):
            self.assertIs(type(term.parts), tuple)
            self.same(term.size, 1 + sum(part.size for part in term.parts))
            self.same(term.depth, 1 + max([part.depth for part in term.parts], default=0))
        self.same(Term("a").parts, ())
        self.same((Term("a").size, Term("a").depth), (1, 1))
        self.assertEqual(Term(head="f", parts=[Term("a")]), Term("f", (Term("a"),)))
        self.same(Term("a12345678901").head, "a12345678901")

    def test_wrong_heads(self):
        for head in ODD_VALUES + (1, "", "1a", "A", "a b", "abcdefghijklm", "a\n", "#0", "(", ["a"], Term("a")):
            self.raised(BadTerm("head"), Term, head)
            self.raised(BadTerm("head"), Term, head, None)

    def test_wrong_parts(self):
        a = Term("a")
        for parts in NO_LISTS + ("", "a", a, [None], [a, "a"], [a, a, 1], [a] * 4, [[a]], {a.head: a}, [a] * 100000,
                                 ["a"],
                                 [Pattern(["a"])], Pattern(["a"])):
            self.raised(BadTerm("parts"), Term, "f", parts)
        self.raised(BadTerm("parts"), Term, "f", [chain(24), chain(24), 0])
        self.raised(BadTerm("parts"), Term, "f", [chain(24)] * 4)

    def test_heads_up_to_24(self):
        self.same((chain(24).size, chain(24).depth), (24, 24))
        self.raised(TooMany("heads", 24), Term, "f", [chain(24)])
        self.same(Term("f", [chain(8), chain(8), chain(7)]).size, 24)
        self.raised(TooMany("heads", 24), Term, "f", [chain(8), chain(8), chain(8)])
        self.raised(TooMany("heads", 24), Term, "f", [chain(24)] * 3)

    def test_what_is_passed_is_copied(self):
        parts = [Term("a")]
        term = Term("f", parts)
        parts.append(Term("b"))
        self.assertEqual(term, Term("f", [Term("a")]))

    def test_equality(self):
        terms = terms_up_to(4)
        for (at, one), (number, other) in itertools.product(enumerate(terms), enumerate(terms[:60])):
            self.assertIs(one == other, at == number)
        for value in NO_TERMS:
            self.assertFalse(Term("a") == value)
        self.assertNotEqual(Term("f", [Term("a")]), Term("f", [Term("a"), Term("a")]))

    def test_texts(self):
        for term in terms_up_to(5):
            self.assertEqual(str(term), slow_text(term))
            self.assertEqual(Term.read(str(term)), term)
        self.assertEqual(str(Term("f", [Term("a"), Term("b"), chain(2)])), "f ( a , b , f ( a ) )")
        self.assertEqual(Term.read(str(chain(24))), chain(24))
        wide = Term("f", [Term("g", [chain(3), chain(2), Term("a")]), chain(8), chain(8)])
        self.assertEqual(Term.read(str(wide)), wide)

    def test_inner_terms_and_heads(self):
        for term in terms_up_to(5):
            inner = inner_terms(term)
            self.assertIs(type(inner), tuple)
            heads = tuple(item for item in str(term).split(" ") if item not in "(,)")
            self.assertEqual(heads_of(term), heads)
            self.assertEqual(tuple(one.head for one in inner), heads)
            self.assertEqual(len(inner), term.size)
            self.assertEqual(inner[0], term)
        term = Term.read("f ( g ( a ) , a , g ( a ) )")
        self.assertEqual([str(one) for one in inner_terms(term)], [str(term), "g ( a )", "a", "a", "g ( a )", "a"])
        for value in NO_TERMS:
            self.raised(BadTerm("term"), inner_terms, value)
            self.raised(BadTerm("term"), heads_of, value)

    def test_bent_texts(self):
        for text, item in [
                ("", 0), (" ", 0), ("A", 0), ("1", 0), ("(", 0), ("#0", 0), ("a ", 1), (" a", 0), ("a b", 1),
                ("a )", 1),
                ("a ,", 1), ("a , b", 1), ("a (", 2), ("a ( ", 2), ("a ( )", 2), ("a ( ,", 2), ("a ( (", 2),
                ("a ( b", 3),
                ("a ( b b", 3), ("a ( b )", None), ("a ( b ) )", 4), ("a ( b ) b", 4), ("a ( b ) ,", 4),
                ("a ( b ) (", 4),
                ("a ( b ) ", 4), ("a ( b ,", 4), ("a ( b , )", 4), ("a ( b , c", 5), ("a ( b , c , d", 7),
                ("a ( b , c , d ,", 7), ("a ( b , c , d , e )", 7), ("a ( b , c , d (", 8), ("a ( b , c , d b )", 7),
                ("a ( b , c , d )", None), ("a ( b ( c )", 6), ("a ( b ( c ) , d )", None), ("a ( b  , c )", 3),
                ("a( b )", 0),
                ("a (b )", 1), ("a ( b,c )", 2), ("a\n", 0), ("a ( b )\n", 3), ("a ( b\n )", 2), ("\ta", 0),
                ("a [ b ]", 1),
                ("abcdefghijklm", 0), ("a ( abcdefghijklm )", 2), ("a ( #0 )", 2), ("a ( b ( c , d , e , f ) )", 9)]:
            if item is None:
                self.assertEqual(str(Term.read(text)), text)
            else:
                self.raised(BadText(0, item), Term.read, text)

    def test_texts_bent_at_each_item(self):
        text = "f ( a , g ( b , c ) , a )"
        items = text.split(" ")
        for at in range(len(items)):
            for bad in ("", "A", "1", "#0", "a\n"):
                self.raised(BadText(0, at), Term.read, " ".join(items[:at] + [bad] + items[at + 1:]))
                self.raised(BadText(0, at), Term.read, " ".join(items[:at] + [bad] + items[at:]))
            if at > 1:
                self.raised(BadText(0, at), Term.read, " ".join(items[:at]))
            with self.assertRaises(BadText):
                Term.read(" ".join(items[:at] + items[at + 1:]))
            with self.assertRaises(BadText) as caught:
                Term.read(" ".join(items[:at + 1] + items[at:]))
            # A second bracket behind the ninth item ends the whole term.
            self.assertEqual(caught.exception.item, 11 if at == 9 else at + 1)

    def test_a_25th_head(self):
        self.assertEqual(Term.read("f ( " * 23 + "a" + " )" * 23).size, 24)
        self.raised(BadText(0, 48), Term.read, "f ( " * 24 + "a" + " )" * 24)
        self.raised(BadText(0, 48), Term.read, "f ( " * 24 + "A")
        self.raised(BadText(0, 48), Term.read, "f ( " * 23 + "f (")
        wide = "f ( a , " + "f ( a , " * 10 + "f ( a )" + " )" * 11
        self.assertEqual(Term.read(wide).size, 24)
        items = wide.split(" ")
        end = items.index(")")
        more = items[:end] + [",", "b"] + items[end:]
        self.raised(BadText(0, end + 1), Term.read, " ".join(more))
        self.raised(BadText(0, end), Term.read, " ".join(items[:end] + ["b"]))
        self.raised(BadText(0, 48), Term.read, "f ( " * 25000 + "a")

    def test_texts_of_24_heads_and_of_25(self):
        chance = random.Random(4)
        for _ in range(200):
            text = tree_text(some_tree(chance, 24))
            self.assertEqual(str(Term.read(text)), text)
            self.assertEqual(Term.read(text).size, 24)
            text = tree_text(some_tree(chance, 25))
            heads = [at for at, item in enumerate(text.split(" ")) if item not in ("(", ",", ")")]
            self.raised(BadText(0, heads[24]), Term.read, text)

    def test_what_is_no_string(self):
        for value in ODD_VALUES + (1, ["a"], ("a",), Term("a")):
            self.raised(BadText(0, 0), Term.read, value)
