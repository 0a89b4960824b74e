"""Words in a proportion, and words laid in words."""

import functools
import itertools

from fourthlike.check_words import shows_laid, shows_pieces
from fourthlike.errors import BadWord, TooMany
from fourthlike.layings import Laid, NotLaid, Pieces, Unlaid, can_be_laid, is_like_words, pieces_of
from tests.helpers import ODD_VALUES, Case

NO_WORDS = ODD_VALUES + (0, 1, [], [""], ("a",), "A", "a b", "a1", "a\n", " ", "-")
LONG = 12


def words_up_to(many, letters="ab"):
    return ["".join(word) for size in range(many + 1) for word in itertools.product(letters, repeat=size)]


def fewest_pieces(*words):
    """The least number of fours of pieces, by cutting off a four in all ways; None if there is none."""
    @functools.lru_cache(None)
    def fewest(a, b, c, d):
        if not a + b + c + d:
            return 0
        found = []
        for one, other in itertools.product(range(len(a) + 1), range(len(d) + 1)):
            if one + other == 0:
                continue
            mine, its = a[:one], d[:other]
            if b.startswith(mine) and c.startswith(its):
                found.append(fewest(a[one:], b[one:], c[other:], d[other:]))
            if c.startswith(mine) and b.startswith(its):
                found.append(fewest(a[one:], b[other:], c[one:], d[other:]))
        return min([1 + many for many in found if many is not None], default=None)
    return fewest(*words)


class LayingsTest(Case):
    def look_at(self, *four):
        """Fails unless the pieces of the four words are right, and as few as can be."""
        many = fewest_pieces(*four)
        found = pieces_of(*four)
        self.assertIs(is_like_words(*four), many is not None)
        self.assertIs(type(found), Unlaid if many is None else Pieces)
        self.is_right(True, shows_pieces, *four, found)
        if many is not None:
            self.assertEqual(len(found.kinds), many)
        self.assertEqual(found, pieces_of(*four))
        return many

    def test_all_short_words(self):
        words = words_up_to(2)
        found = {self.look_at(*four) for four in itertools.product(words, repeat=4)}
        self.assertEqual(found, {None, 0, 1, 2, 3, 4})

    def test_longer_words(self):
        words = words_up_to(3)[7:]
        found = {self.look_at(*four) for four in itertools.product(words, words[::2], words[::3], words)}
        self.assertIn(3, found)

    def test_words_with_many_pieces(self):
        self.look_at("walk", "walked", "talk", "talked")
        self.look_at("abcabc", "bacbac", "acbacb", "cabcab")
        self.look_at("axbxcx", "xaxbxc", "ayx", "yxa")
        self.look_at("aabbaabb", "abababab", "babababa", "bbaabbaa")
        self.look_at("abababababab", "abababababab", "babababababa", "babababababa")
        self.look_at("sing", "sang", "ring", "rang")
        self.look_at("abab", "baba", "aabb", "bbaa")

    def test_what_follows_from_a_proportion(self):
        words = words_up_to(2, "abc")
        found = [four for four in itertools.product(words, repeat=4) if sum(map(len,
                                                                                four)) == 6 and is_like_words(*four)]
        self.assertGreater(len(found), 100)
        for a, b, c, d in found:
            self.assertEqual(sorted(a + d), sorted(b + c))
            for other in ((a, c, b, d), (c, d, a, b), (b, a, d, c), [word[::-1] for word in (a, b, c, d)]):
                self.is_right(True, is_like_words, *other)

    def test_chains_break(self):
        self.is_right(True, is_like_words, "ac", "ca", "ab", "ba")
        self.is_right(True, is_like_words, "ab", "ba", "cb", "bc")
        self.is_right(False, is_like_words, "ac", "ca", "cb", "bc")

    def test_four_empty_words(self):
        self.is_right(True, is_like_words, "", "", "", "")
        self.assertEqual(pieces_of("", "", "", ""), Pieces([], []))
        self.same(pieces_of("", "", "", "").parts, ((), ()))

    def test_pieces(self):
        found = pieces_of("walk", "walked", "talk", "talked")
        self.assertEqual("".join(four[0] for four in found.fours), "walk")
        self.assertEqual("".join(four[3] for four in found.fours), "talked")
        self.same(pieces_of("a", "a", "b", "b").parts, (("steady",), (("a", "a", "b", "b"),)))
        self.same(pieces_of("a", "b", "a", "b").parts, (("change",), (("a", "b", "a", "b"),)))
        self.assertIn(pieces_of("a", "a", "a", "a").kinds, (("steady",), ("change",)))

    def test_unlaid(self):
        self.same(pieces_of("a", "b", "c", "d").places, ((0, 0, 0, 0),))
        found = pieces_of("ab", "ba", "a", "b").places
        self.assertIn((0, 0, 0, 0), found)
        self.assertNotIn((2, 2, 1, 1), found)
        self.assertIs(bool(pieces_of("a", "", "", "")), False)

    def test_words_laid(self):
        for a, b in itertools.product(words_up_to(4), words_up_to(4)):
            wanted = [places for places in itertools.combinations(range(len(b)), len(a))
                      if "".join(b[at] for at in places) == a]
            found = can_be_laid(a, b)
            if wanted:
                self.assertEqual(found, Laid(min(wanted)))
                self.same(found.indexes, min(wanted))
            else:
                longest = max(many for many in range(len(a)) if can_be_laid(a[:many], b))
                self.assertEqual(found, NotLaid(longest))
            self.is_right(True, shows_laid, a, b, found)

    def test_long_words_and_no_words(self):
        good = "ab" * 6
        for call, names in ((is_like_words, "abcd"), (pieces_of, "abcd"), (can_be_laid, "ab")):
            call(*([good] * len(names)))
            for at, name in enumerate(names):
                for bad in NO_WORDS:
                    self.raised(BadWord(name), call, *([good + "a"] * at), *([bad] * (len(names) - at)))
                words = [good] * len(names)
                words[at] = good + "a"
                self.raised(TooMany("letters", 12), call, *words)
                words[at] = "a" * 100000
                self.raised(TooMany("letters", 12), call, *words)

    def test_short_answers(self):
        for four in (["a" * LONG] * 4, ["ab" * 6] * 4, ("ab" * 6, "ba" * 6, "ab" * 6, "ba" * 6),
                     ("a" * LONG, "a" * LONG, "a" * LONG, "a" * 11 + "b"), ("", "a" * LONG, "a" * LONG, "a" * LONG)):
            self.shortly(is_like_words, *four)
            self.shortly(pieces_of, *four)
