"""Fourths of words: all of them, how many, by their numbers, by endings."""

import itertools

from fourthlike.check_words import shows_no_word
from fourthlike.endings import ends_alike
from fourthlike.errors import BadNumber, BadWord, TooMany
from fourthlike.fourthwords import NoWord, fourths_of_words, no_word
from fourthlike.layings import can_be_laid, is_like_words
from fourthlike.wordcounts import fourth_at, many_fourths
from tests.helpers import ODD_VALUES, Case
from tests.test_layings import NO_WORDS, words_up_to


def slow_fourths(a, b, c):
    """All fourths, by looking at each word of the right letters."""
    left = list(b + c)
    for letter in a:
        if letter not in left:
            return ()
        left.remove(letter)
    return tuple(sorted({"".join(word) for word in itertools.permutations(left)
                         if is_like_words(a, b, c, "".join(word))}))


class FourthWordsTest(Case):
    def look_at(self, a, b, c):
        """Fails unless all that is told of the fourths of a, b, c is right."""
        wanted = slow_fourths(a, b, c)
        self.same(fourths_of_words(a, b, c), wanted)
        self.same(fourths_of_words(a, c, b), wanted)
        self.same(many_fourths(a, b, c), len(wanted))
        for number, word in enumerate(wanted):
            self.same(fourth_at(a, b, c, number), word)
        for number in (len(wanted), len(wanted) + 1, 10 ** 40):
            self.raised(BadNumber("number"), fourth_at, a, b, c, number)
        none = no_word(a, b, c)
        if wanted:
            self.assertIsNone(none)
        else:
            self.assertIs(type(none), NoWord)
            self.is_right(True, shows_no_word, a, b, c, none)
            self.assertEqual(no_word(a, b, c), none)
        turned = fourths_of_words(a[::-1], b[::-1], c[::-1])
        self.assertEqual(sorted(word[::-1] for word in turned), list(wanted))
        return len(wanted)

    def test_all_short_words(self):
        words = words_up_to(3)
        found = {self.look_at(a, b, c) for a, b, c in itertools.product(words, words, words[::2])}
        self.assertTrue({0, 1, 2, 3} <= found)

    def test_words_of_more_letters(self):
        for three in (("abc", "acb", "bac"), ("ab", "cab", "abd"), ("", "abc", "cab"), ("aab", "abab", "baab"),
                      ("abc", "abcd", "abce"),
                      ("ba", "abba", "bab"), ("abcd", "abcd", "dcba"), ("abcd", "dcba", "abcd"),
                      ("sing", "sang", "ring")):
            self.look_at(*three)

    def test_a_fourth_with_each_word(self):
        words = words_up_to(3)
        for a, b in itertools.product(words, words):
            always = all(fourths_of_words(a, b, c) for c in words)
            self.assertEqual(always, bool(can_be_laid(a, b)))

    def test_many(self):
        self.same(many_fourths("", "abcdef", "ghijkl"), 924)
        self.same(fourth_at("", "abcdef", "ghijkl", 0), "abcdefghijkl")
        self.same(fourth_at("", "abcdef", "ghijkl", 923), "ghijklabcdef")
        self.raised(BadNumber("number"), fourth_at, "", "abcdef", "ghijkl", 924)
        self.raised(TooMany("fourths", 400), fourths_of_words, "", "abcdef", "ghijkl")
        self.same(many_fourths("", "abcdef", "ghijk"), 462)
        self.raised(TooMany("fourths", 400), fourths_of_words, "", "abcdef", "ghijk")
        self.same(len(fourths_of_words("", "abcde", "ghijk")), 252)
        self.same(no_word("", "abcdef", "ghijkl"), None)
        words = [fourth_at("", "abcdef", "ghijk", number) for number in range(462)]
        self.assertEqual(words, sorted(set(words)))

    def test_near_four_hundred(self):
        self.same(many_fourths("cf", "facaee", "dfecfd"), 400)
        self.assertEqual(len(fourths_of_words("cf", "facaee", "dfecfd")), 400)
        self.same(many_fourths("dc", "dbddfc", "eabdag"), 401)
        self.raised(TooMany("fourths", 400), fourths_of_words, "dc", "dbddfc", "eabdag")
        counts = {}
        for b, c in itertools.product(("abcdef", "abcdea", "abcabc", "aabbcc"),
                                      ("ghijkl", "abcdef", "fedcba", "abcghi")):
            counts[many_fourths("", b, c)] = (b, c)
        for many, (b, c) in counts.items():
            if many > 400:
                self.raised(TooMany("fourths", 400), fourths_of_words, "", b, c)
            else:
                found = fourths_of_words("", b, c)
                self.assertEqual(list(found), sorted(set(found)))
                self.assertEqual(len(found), many)
        self.assertTrue(min(counts) <= 400 < max(counts))

    def test_endings(self):
        self.same(ends_alike("", "", ""), "")
        self.same(ends_alike("walk", "walked", "talk"), "talked")
        self.same(ends_alike("walked", "walk", "talked"), "talk")
        self.same(ends_alike("walk", "walk", "talk"), "talk")
        self.same(ends_alike("a", "b", "ca"), "cb")
        self.same(ends_alike("a", "b", "c"), None)
        self.same(ends_alike("ab", "", "ab"), "")
        self.same(ends_alike("aab", "ab", "cab"), "cb")
        self.same(ends_alike("abc", "abd", "c"), "d")
        self.same(ends_alike("abc", "abd", ""), None)
        for a, b, c in itertools.product(words_up_to(3), repeat=3):
            found = ends_alike(a, b, c)
            begins = [many for many in range(min(len(a), len(b)) + 1) if a[:many] == b[:many]]
            rest = a[max(begins):]
            if c[len(c) - len(rest):] == rest and len(c) >= len(rest):
                self.assertEqual(found, c[:len(c) - len(rest)] + b[max(begins):])
                self.is_right(True, is_like_words, a, b, c, found)
            else:
                self.assertIsNone(found)

    def test_long_words_and_no_words(self):
        for call, most, more in ((fourths_of_words, 6, ()), (no_word, 6, ()), (many_fourths, 6, ()),
                                 (fourth_at, 6, (0,)),
                                 (ends_alike, 12, ())):
            good = "abcdefabcdef"[:most]
            call(good, good, good, *more)
            for at, name in enumerate("abc"):
                for bad in NO_WORDS:
                    self.raised(BadWord(name), call, *([good + "a"] * at), *([bad] * (3 - at)), *more)
                words = [good] * 3
                words[at] = good + "a"
                self.raised(TooMany("letters", most), call, *words, *more)

    def test_numbers_in_the_order_of_errors(self):
        for bad in ODD_VALUES + (-1, "0", [0], -10 ** 40):
            self.raised(BadWord("c"), fourth_at, "a", "a", 1, bad)
            self.raised(BadNumber("number"), fourth_at, "a" * 7, "a", "a", bad)
            self.raised(BadNumber("number"), fourth_at, "a", "a", "a", bad)
        self.raised(TooMany("letters", 6), fourth_at, "a" * 7, "a", "a", 10 ** 40)
        self.raised(BadNumber("number"), fourth_at, "a", "b", "c", 0)

    def test_short_answers(self):
        for three in (("", "abcdef", "ghijkl"), ("", "ababab", "bababa"), ("a", "aabbab", "ababba"),
                      ("abc", "abcabc", "cababc"),
                      ("aaaaaa", "aaaaaa", "aaaaaa"), ("abcdef", "fedcba", "abcdef"), ("ab", "aabbcc", "ccbbaa")):
            self.shortly(many_fourths, *three)
            self.shortly(no_word, *three)
            if many_fourths(*three):
                self.shortly(fourth_at, *three, many_fourths(*three) - 1)
        self.shortly(fourths_of_words, "", "abcde", "ghijk")
