"""Cells free, forced, open and torn, and blocks, against all ways to lay words into one another."""

import functools
import itertools

from fourthlike.errors import BadForms, NoName, TooMany
from fourthlike.forms import Forms
from fourthlike.gaps import ForcedForm, FreeGap, OpenForm, Torn, blocks, gap_of, odd_block, sources
from tests.helpers import NO_NAMES, Case
from tests.test_forms import NO_FORMS, made_forms, pairs_in, some_forms, words_in


@functools.lru_cache(None)
def laid_into(one, other):
    """All words that come of two words laid into one another."""
    if not one or not other:
        return frozenset([one + other])
    first = {one[0] + word for word in laid_into(one[1:], other)}
    return frozenset(first | {other[0] + word for word in laid_into(one, other[1:])})


@functools.lru_cache(None)
def left_without(word, some):
    """All words that are left of a word if the letters of some are taken out in their order."""
    if len(some) > len(word):
        return frozenset()
    if not word:
        return frozenset([""])
    found = {word[0] + left for left in left_without(word[1:], some)}
    if some and word[0] == some[0]:
        found |= left_without(word[1:], some[1:])
    return frozenset(found)


@functools.lru_cache(None)
def fourths(a, b, c):
    """All words that, with a, can be laid into one another to a word that comes of b and c, too."""
    return frozenset(left for word in laid_into(b, c) for left in left_without(word, a))


def slow_sources(forms, row, column):
    """The sources of the cell, with the words that each gives."""
    words = words_in(forms)
    found = []
    for s, e in pairs_in(forms):
        if s != row and e != column and {(s, e), (s, column), (row, e)} <= set(words):
            found.append(((s, e), fourths(words[s, e], words[s, column], words[row, e])))
    return found


def slow_shared(given):
    """The ascending words that all of the lots have."""
    return tuple(sorted(frozenset.intersection(*given)))


def slow_torn(given):
    """The numbers of the fewest lots that share no word, the least of these."""
    for many in range(1, len(given) + 1):
        for some in itertools.combinations(range(len(given)), many):
            if not slow_shared([given[number] for number in some]):
                return some
    raise AssertionError


def slow_gap(forms, row, column):
    """The paper of the cell."""
    given = [words for _, words in slow_sources(forms, row, column)]
    if not given:
        return FreeGap()
    shared = slow_shared(given)
    if not shared:
        return Torn(slow_torn(given))
    return ForcedForm(shared[0]) if len(shared) == 1 else OpenForm(shared)


def slow_blocks(forms):
    """The blocks, and whether each is like."""
    words = words_in(forms)
    found = []
    for r, s in itertools.combinations(forms.rows, 2):
        for c, e in itertools.combinations(forms.columns, 2):
            if {(r, c), (r, e), (s, c), (s, e)} <= set(words):
                found.append(((r, s, c, e), words[s, e] in fourths(words[r, c], words[r, e], words[s, c])))
    return found


TABLES = some_forms(60, gaps=0.2) + made_forms(60, spoilt=0.1) + some_forms(60, seed=2, most=1, gaps=0.1)


class GapsTest(Case):
    def test_all_cells(self):
        seen = {}
        for forms in TABLES:
            for row, column in pairs_in(forms):
                self.same(sources(forms, row, column), tuple(pair for pair, _ in slow_sources(forms, row, column)))
                wanted = slow_gap(forms, row, column)
                found = gap_of(forms, row, column)
                self.same(found, wanted)
                has_word = (row, column) in words_in(forms)
                seen[found.word, has_word] = seen.get((found.word, has_word), 0) + 1
                # A word of the cell itself changes nothing.
                self.same(gap_of(forms.with_word(row, column, "zz"), row, column), wanted)
                self.same(gap_of(forms.without([(row, column)]), row, column), wanted)
        self.assertEqual(len(seen), 8)
        self.assertGreater(min(seen.values()), 5)

    def test_torn_by_several_sources(self):
        sizes = set()
        for forms in some_forms(150, [(3, 3), (3, 4), (4, 3)], 0.05, 7, "ab", 2) + made_forms(
                150, [(3, 3), (3, 4)], 0.0, 0.1, 8):
            for row, column in pairs_in(forms)[:3]:
                found = gap_of(forms, row, column)
                self.same(found, slow_gap(forms, row, column))
                if not found:
                    sizes.add(len(found.sources))
        self.assertTrue({1, 2} <= sizes)

    def test_three_sources_that_share_words_two_by_two(self):
        # They give abb, bab; abb, bba; bab, bba.
        forms = Forms.read("x y z w / p q : - . abab a abba a baba a")
        self.same(gap_of(forms, "x", "p").sources, (0, 1, 2))
        self.same(slow_gap(forms, "x", "p").sources, (0, 1, 2))
        for row, form in (("y", "bba"), ("z", "bab"), ("w", "abb")):
            self.same(gap_of(forms.without([(row, "p")]), "x", "p").form, form)
            # A source that gives nothing, or other letters, tears it by itself, or with the first one.
            self.same(gap_of(forms.with_word(row, "q", "ccccc"), "x", "p").sources, ("yzw".index(row),))
        self.same(gap_of(forms.with_word("w", "p", "abac"), "x", "p").sources, (0, 2))

    def test_rows_and_columns_exchanged(self):
        for forms in TABLES[::3]:
            for row, column in pairs_in(forms):
                one, other = gap_of(forms, row, column), gap_of(forms.turned(), column, row)
                self.assertEqual(one.word, other.word)
                if one:
                    self.same(one, other)

    def test_blocks(self):
        odd = 0
        for forms in TABLES:
            wanted = slow_blocks(forms)
            self.same(blocks(forms), tuple(block for block, _ in wanted))
            unlike = [block for block, like in wanted if not like]
            self.same(odd_block(forms), unlike[0] if unlike else None)
            odd += bool(unlike)
        self.assertTrue(20 < odd < len(TABLES) - 20)

    def test_made_tables_have_no_odd_block(self):
        for forms in made_forms(60, gaps=0.1, seed=3, letters="abc", most=3):
            self.assertIsNone(odd_block(forms))
            for row, column in pairs_in(forms):
                self.assertTrue(gap_of(forms, row, column))

    def test_too_many_words(self):
        both = {("x", "p"): "", ("x", "q"): "abcdef", ("y", "p"): "ghijkl"}
        self.raised(TooMany("words", 400), gap_of, Forms(["x", "y"], ["p", "q"], both), "y", "q")
        # 6 and 5 letters can be laid into one another in 462 ways, 5 and 5 in 252.
        both["x", "q"] = "abcde"
        self.raised(TooMany("words", 400), gap_of, Forms(["x", "y"], ["p", "q"], both), "y", "q")
        both["y", "p"] = "ghijk"
        self.assertEqual(len(gap_of(Forms(["x", "y"], ["p", "q"], both), "y", "q").forms), 252)
        # These have just 400 fourths, and just 401.
        self.assertEqual(len(gap_of(Forms.read("x y / p q : cf facaee dfecfd -"), "y", "q").forms), 400)
        self.raised(TooMany("words", 400), gap_of, Forms.read("x y / p q : dc dbddfc eabdag -"), "y", "q")

    def test_many_words_of_which_few_are_shared(self):
        cells = {("x", "p"): "", ("x", "q"): "abcdef", ("y", "p"): "ghijkl", ("x", "r"): "", ("y", "r"): "ghijkl"}
        forms = Forms(["x", "y", "z"], ["p", "q", "r"], cells)
        self.raised(TooMany("words", 400), gap_of, forms, "y", "q")
        # Another row gives just one word of these.
        more = {("z", "p"): "ghi", ("z", "q"): "ghiabc"}
        found = Forms(["x", "y", "z"], ["p", "q"], {**{pair: word for pair, word in cells.items() if pair[1] != "r"},
                                                    **more})
        self.same(gap_of(found, "y", "q"), slow_gap(found, "y", "q"))
        empty = forms.with_word("z", "p", "").with_word("z", "q", "ghijkl").with_word("y", "p", "abcdef")
        self.same(gap_of(empty, "y", "q").word, "torn")

    def test_bounds_come_shortly(self):
        for forms in some_forms(8, [(3, 4), (4, 3)], 0.1, 10, "abc", 6) + made_forms(
                8, [(3, 4), (4, 3)], 0.1, 0, 11, "abcdef", 3):
            self.shortly(odd_block, forms)
            for row, column in pairs_in(forms)[::5]:
                self.shortly(gap_of, forms, row, column)

    def test_errors(self):
        forms = Forms(["x", "y"], ["p", "q"], {})
        for call in (sources, gap_of):
            for value in NO_FORMS:
                self.raised(BadForms("forms"), call, value, None, None)
            for value in NO_NAMES + ("p", "z"):
                self.raised(NoName(value), call, forms, value, "?")
            for value in NO_NAMES + ("x", "r"):
                self.raised(NoName(value), call, forms, "y", value)
        for value in NO_FORMS:
            self.raised(BadForms("forms"), blocks, value)
            self.raised(BadForms("forms"), odd_block, value)
