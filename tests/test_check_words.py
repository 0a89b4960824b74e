"""Whether papers on words are right."""

import itertools
from unittest.mock import ANY

from fourthlike.check_words import shows_laid, shows_no_word, shows_pieces
from fourthlike.errors import BadWord
from fourthlike.fourthwords import NoWord, no_word
from fourthlike.layings import Laid, NotLaid, Pieces, Unlaid, can_be_laid, pieces_of
from fourthlike.papers import Denial, Paper
from tests.helpers import Case
from tests.test_layings import NO_WORDS, words_up_to

WALK = ("walk", "walked", "talk", "talked")
NO_PAPERS = NO_WORDS + ((), "pieces", Paper("pieces", (), ()), Denial("unlaid", ((0, 0, 0, 0),)), Denial("notlaid", 0),
                        Paper("laid", ()), Denial("noword", ((0, 0, 0),)), Pieces, Unlaid, Laid, NotLaid, NoWord)


class CheckWordsTest(Case):
    def test_every_right_pieces(self):
        good = Pieces(["change", "steady", "steady"], [["", "", "", ""], ["w", "w", "t", "t"],
                                                       ["alk", "alk", "alk", "alk"]])
        self.is_right(True, shows_pieces, "walk", "walk", "talk", "talk", good)
        letters = [("steady", ("w", "w", "t", "t"))] + [("steady", (one,) * 4) for one in "alk"] + [
            ("change", ("", "e", "", "e")), ("change", ("", "d", "", "d"))]
        self.is_right(True, shows_pieces, *WALK, Pieces(*zip(*letters)))
        both = [("change" if len(set(four)) == 1 else kind, four) for kind, four in letters]
        self.is_right(True, shows_pieces, *WALK, Pieces(*zip(*both)))
        more = [("steady", ("", "", "", ""))] * 50 + letters + [("change", ("", "", "", ""))] * 50
        self.is_right(True, shows_pieces, *WALK, Pieces(*zip(*more)))
        self.is_right(True, shows_pieces, "", "", "", "", Pieces([], []))
        self.is_right(True, shows_pieces, "", "", "", "", Pieces(["steady"], [["", "", "", ""]]))
        self.is_right(True, shows_pieces, "a", "a", "b", "b",
                      Pieces(["steady", "steady"], [["a", "a", "", ""], ["", "", "b", "b"]]))

    def test_bent_pieces(self):
        kinds = ["steady", "change"]
        fours = [["walk", "walk", "talk", "talk"], ["", "ed", "", "ed"]]
        self.is_right(True, shows_pieces, *WALK, Pieces(kinds, fours))
        self.is_right(True, shows_pieces, *WALK, Pieces(tuple(kinds), tuple(map(tuple, fours))))
        for bad in (["change", "change"], ["steady", "steady"], kinds[::-1], kinds[:1], kinds + ["steady"], [], None,
                    "ab",
                    ["both", "change"], [True, "change"], ["steady", None], ["steady", 1], ["Steady", "change"],
                    [["steady"], "change"], "steady", 2, ["steady", b"change"]):
            self.is_right(False, shows_pieces, *WALK, Pieces(bad, fours))
        for at, number in itertools.product(range(2), range(4)):
            for bad in ("x", "talk ", None, 1, True, ["walk"], b"walk", fours[at][number] + "a", "WALK"):
                bent = [list(four) for four in fours]
                bent[at][number] = bad
                self.is_right(False, shows_pieces, *WALK, Pieces(kinds, bent))
        for bad in (fours[:1], fours + [["", "", "", ""]], fours[::-1], [fours[0], ["", "ed", ""]], [fours[0], "eded"],
                    [fours[0], ["", "ed", "", "ed", ""]], [fours[0], None], None, 4, "ab", [], [fours[0][:3], fours[1]],
                    [fours[0], fours[0]], {0: fours}):
            self.is_right(False, shows_pieces, *WALK, Pieces(kinds, bad))
        for bad in (None, 1, True, ["walk"], b"walk", "WALK", ANY):
            self.is_right(False, shows_pieces, *WALK, Pieces(kinds, [[bad] * 4, fours[1]]))
            self.is_right(False, shows_pieces, *WALK, Pieces([bad, "change"], fours))
            self.is_right(False, shows_pieces, *WALK, Pieces(kinds, [bad, fours[1]]))
            self.is_right(False, shows_pieces, *WALK, Pieces(bad, fours))
            self.is_right(False, shows_pieces, *WALK, Pieces(kinds, bad))
        self.is_right(False, shows_pieces, "walk", "walked", "talk", "talker", Pieces(kinds, fours))
        self.is_right(False, shows_pieces, "walked", "walk", "talked", "talk", Pieces(kinds, fours))
        for bad in NO_PAPERS + (Paper("pieces", kinds, fours), Unlaid([(0, 0, 0, 0)]), Laid(()), NotLaid(0),
                                [kinds, fours]):
            self.is_right(False, shows_pieces, *WALK, bad)

    def closed_lots(self, words, wanted):
        """All lots of the places of short words, each with whether it is closed, and lacks the last place."""
        places = list(itertools.product(*[range(len(word) + 1) for word in words]))
        for chosen in itertools.product((False, True), repeat=len(places)):
            lot = [place for place, one in zip(places, chosen) if one]
            yield lot, all(wanted(words, place, lot) for place in lot) and places[0] in lot and places[-1] not in lot

    def test_every_unlaid_of_short_words(self):
        def leads_only_within(words, place, lot):
            for one, other in ((0, 1), (2, 3), (0, 2), (1, 3)):
                letters = [words[at][place[at]:place[at] + 1] for at in (one, other)]
                if letters[0] and letters[0] == letters[1]:
                    after = list(place)
                    after[one] += 1
                    after[other] += 1
                    if tuple(after) not in lot:
                        return False
            return True
        for words in (("a", "a", "a", ""), ("a", "b", "", "a"), ("ab", "ab", "", ""), ("a", "", "a", ""),
                      ("a", "a", "", "")):
            right = 0
            for lot, wanted in self.closed_lots(words, leads_only_within):
                self.is_right(wanted, shows_pieces, *words, Unlaid(lot))
                right += wanted
            self.assertEqual(right > 0, not pieces_of(*words))

    def test_every_no_word_of_short_words(self):
        def leads_only_within(words, spot, lot):
            i, j, k = spot
            a, b, c = words[0][i:i + 1], words[1][j:j + 1], words[2][k:k + 1]
            after = [(i, j + 1, k)] * bool(b) + [(i, j, k + 1)] * bool(c)
            after += [(i + 1, j + 1, k)] * (bool(a) and a == b) + [(i + 1, j, k + 1)] * (bool(a) and a == c)
            return all(one in lot for one in after)
        for words in (("a", "b", "a"), ("a", "b", ""), ("aa", "a", ""), ("ab", "b", "a"), ("", "a", "b"),
                      ("a", "b", "c"), ("aa", "a", "b")):
            right = 0
            for lot, wanted in self.closed_lots(words, leads_only_within):
                self.is_right(wanted, shows_no_word, *words, NoWord(lot))
                right += wanted
            self.assertEqual(right > 0, no_word(*words) is not None)

    def test_bent_closed_lots(self):
        for call, words, made in ((shows_pieces, ("ab", "ba", "a", "b"), Unlaid),
                                  (shows_no_word, ("ab", "ba", "c"), NoWord)):
            found = (pieces_of if made is Unlaid else no_word)(*words)
            places = list(found.parts[0])
            self.is_right(True, call, *words, found)
            self.is_right(True, call, *words, made(places[::-1] + places))
            self.is_right(True, call, *words, made([list(place) for place in places]))
            last = tuple(len(word) for word in words)
            self.is_right(False, call, *words, made(places + [last]))
            first = (0,) * len(words)
            for bad in ((), None, first, "0000", 0, {first: True}, [first, None], [None]):
                self.is_right(False, call, *words, made(bad))
            for bad in ((0,) * (len(words) - 1), (0,) * (len(words) + 1), (False,) * len(words), (-1,) + first[1:],
                        None, 0,
                        (len(words[0]) + 1,) + first[1:], (True,) + first[1:], (0.0,) + first[1:], "0" * len(words),
                        (None,) + first[1:], ((0,),) + first[1:], (10 ** 30,) + first[1:]):
                self.is_right(False, call, *words, made(places + [bad]))
                self.is_right(False, call, *words, made([bad] + places))
                if bad != first:
                    self.is_right(False, call, *words, made([bad if place == first else place for place in places]))
            for bad in NO_PAPERS + (Denial(found.word, places), Pieces((), ()), NotLaid(0), Laid(())):
                self.is_right(False, call, *words, bad)
        for bad in ((-1, 0, 0, 0), (2, 0, 0, 0), (True, 0, 0, 0), (0, 0, 0), (0, 0, 0, 0, 0), ANY, (ANY, 0, 0, 0)):
            self.is_right(False, shows_pieces, "a", "b", "c", "d", Unlaid([(0, 0, 0, 0), bad]))
        for bad in ((-1, 0, 0), (2, 0, 0), (True, 0, 0), (0, 0), (0, 0, 0, 0), ANY, (ANY, 0, 0)):
            self.is_right(False, shows_no_word, "a", "", "", NoWord([(0, 0, 0), bad]))
        self.is_right(True, shows_pieces, "a", "b", "c", "d", Unlaid([(0, 0, 0, 0), (1, 0, 0, 0)]))
        self.is_right(False, shows_pieces, "", "", "", "", Unlaid([(0, 0, 0, 0)]))
        self.is_right(False, shows_no_word, "", "", "", NoWord([(0, 0, 0)]))
        self.is_right(False, shows_pieces, "a", "b", "c", "d", NoWord([(0, 0, 0, 0)]))
        self.is_right(False, shows_no_word, "a", "", "", Unlaid([(0, 0, 0)]))

    def test_laid(self):
        for a, b in itertools.product(words_up_to(2), words_up_to(4)):
            for many in range(4):
                for indexes in itertools.product(range(-1, 5), repeat=many):
                    wanted = list(indexes) == sorted(set(indexes)) and all(0 <= at < len(b) for at in indexes)
                    wanted = wanted and "".join(b[at] for at in indexes) == a
                    self.is_right(wanted, shows_laid, a, b, Laid(indexes))
            for at in range(-1, 4):
                self.is_right(can_be_laid(a, b) == NotLaid(at), shows_laid, a, b, NotLaid(at))

    def test_bent_laid(self):
        self.is_right(True, shows_laid, "ba", "abba", Laid([2, 3]))
        self.is_right(True, shows_laid, "ba", "abba", Laid((1, 3)))
        for bad in ((True, 3), (1, 3.0), (1,), (1, 2, 3), (3, 1), (1, 1), "13", None, 1, (1, None), (1, "3"), (-3, -1),
                    (1, 4),
                    ((1,), 3), {1: 3}, (1, 10 ** 30), ()):
            self.is_right(False, shows_laid, "ba", "abba", Laid(bad))
        for bad in NO_PAPERS + (Paper("laid", (1, 3)), NotLaid(0), NotLaid(1), NotLaid(2), NotLaid(None),
                                Pieces((), ())):
            self.is_right(False, shows_laid, "ba", "abba", bad)
        self.is_right(True, shows_laid, "aab", "ab", NotLaid(1))
        for bad in NO_PAPERS + (Denial("notlaid", 1), Unlaid([(0, 0)]), NotLaid(ANY), Laid(ANY), Laid([0, ANY, 1])):
            self.is_right(False, shows_laid, "aab", "ab", bad)
        for bad in (0, 2, 3, True, None, 1.0, "1", [1], (1,), -2, -1):
            self.is_right(False, shows_laid, "aab", "ab", NotLaid(bad))
        self.is_right(True, shows_laid, "", "", Laid([]))
        self.is_right(False, shows_laid, "", "", NotLaid(0))
        self.is_right(False, shows_laid, "b", "a", NotLaid(False))

    def test_words_of_any_length(self):
        long = "ab" * 50000
        self.assertTrue(self.shortly(shows_pieces, long, long, long, long, Pieces(["change"], [[long] * 4])))
        self.assertFalse(self.shortly(shows_pieces, long, long, long, long,
                                      Pieces(["change"], [[long] * 3 + [long[1:]]])))
        self.assertTrue(self.shortly(shows_laid, long, long, Laid(list(range(len(long))))))
        self.assertTrue(self.shortly(shows_laid, "a" * 20, "b" * 20, NotLaid(0)))
        self.assertFalse(self.shortly(shows_no_word, long, long, long, NoWord([(0, 0, 0)])))
        self.assertTrue(self.shortly(shows_pieces, long, "c" * 50000, "c", long, Unlaid([(0, 0, 0, 0)])))
        self.assertTrue(self.shortly(shows_no_word, "abcdefg", "", "", NoWord([(0, 0, 0)])))

    def test_what_is_no_word(self):
        for call, names in ((shows_pieces, "abcd"), (shows_laid, "ab"), (shows_no_word, "abc")):
            for at, name in enumerate(names):
                for bad in NO_WORDS:
                    for value in (None, Pieces((), ()), Laid(()), NoWord(())):
                        self.raised(BadWord(name), call, *(["a" * 13] * at), *([bad] * (len(names) - at)), value)
