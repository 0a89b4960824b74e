"""Sets carried to rows, rows to words, subsets to a lattice."""

import itertools

from fourthlike.carried import lattice_of_sets, row_of_set, set_of_row, word_of_row
from fourthlike.errors import BadRow, BadWord, Misfit, NoName, TooMany, Twice
from fourthlike.latticelike import fourths_in, is_like_things
from fourthlike.layings import is_like_words
from fourthlike.likenesses import is_proportion
from fourthlike.rows import Row
from fourthlike.setlike import is_like_sets
from tests.helpers import NO_LISTS, NO_NAMES, ODD_VALUES, Case
from tests.test_layings import NO_WORDS

SIX = ["c", "a", "b2", "z", "d", "e"]
NO_ROWS = ODD_VALUES + (0, "", "2 : 0", [0], (2, (0,)))
NO_SET_NAMES = NO_LISTS + ("", "abc", [], (), {"a": 1}, ["a", "b", "c", "d", "e", "f", "g"], ["a"] * 7)


def subsets(names):
    return [list(some) for many in range(len(names) + 1) for some in itertools.combinations(names, many)]


class SetsTest(Case):
    def test_all_sets(self):
        for many in range(1, 7):
            names = SIX[:many]
            for some in subsets(names):
                row = row_of_set(names, some)
                self.same((row.marks, row.places), (2, tuple(1 if name in some else 0 for name in names)))
                self.assertEqual(row_of_set(tuple(names), tuple(some[::-1])), row)
                self.same(set_of_row(names, row), tuple(some))
                self.same(set_of_row(tuple(names), row), tuple(some))

    def test_wrong_names(self):
        for names in NO_SET_NAMES:
            self.raised(BadRow("names"), row_of_set, names, None)
            self.raised(BadRow("names"), set_of_row, names, None)
        for name in NO_NAMES:
            for names in ([name], ["a", name], [name, "a", "a"], ["a", "a", name]):
                self.raised(BadRow("names"), row_of_set, names, None)
                self.raised(BadRow("names"), set_of_row, names, None)
        self.raised(Twice("b"), row_of_set, ["a", "b", "b", "a"], None)
        self.raised(Twice("a"), set_of_row, ["a", "b", "a", "b"], None)

    def test_wrong_sets(self):
        for some in NO_LISTS + ("", "a", {"a": 1}):
            self.raised(BadRow("some"), row_of_set, ["a", "b"], some)
        for value in NO_NAMES + ("c", "ab"):
            self.raised(NoName(value), row_of_set, ["a", "b"], ["a", value])
            self.raised(NoName(value), row_of_set, ["a", "b"], ["a", "a", value, "?"])
        self.raised(Twice("b"), row_of_set, ["a", "b"], ["a", "b", "b", "a"])

    def test_wrong_rows(self):
        for value in NO_ROWS:
            self.raised(BadRow("row"), set_of_row, ["a"], value)
            self.raised(BadRow("row"), word_of_row, value)
        for marks in (3, 4):
            self.raised(Misfit("marks"), set_of_row, ["a", "b"], Row(marks, [0]))
        for many in (1, 3):
            self.raised(Misfit("places"), set_of_row, ["a", "b"], Row(2, [0] * many))


class WordsTest(Case):
    def test_words(self):
        letters = "abcdefghijklmnopqrstuvwxyz"
        for marks in (2, 3, 4):
            for many in (1, 2, 3):
                for places in itertools.product(range(marks), repeat=many):
                    wanted = "".join(letters[at * marks + mark] for at, mark in enumerate(places))
                    self.same(word_of_row(Row(marks, places)), wanted)
        self.same(word_of_row(Row(4, [3, 3, 3, 3, 3, 3])), "dhlptx")
        self.same(word_of_row(Row(4, [0] * 6)), "aeimqu")


class LatticeTest(Case):
    def test_all_subsets(self):
        for letters in ("a", "z", "ab", "ba", "xc", "abc", "cab", "zya"):
            lattice = lattice_of_sets(letters)
            names = sorted("s" + "".join(sorted(some)) for some in subsets(letters))
            self.same(lattice.names, tuple(names))
            for one, other in itertools.product(names, repeat=2):
                first, second = set(one[1:]), set(other[1:])
                self.is_right(first <= second, lattice.is_beneath, one, other)
                self.same(lattice.meet(one, other), "s" + "".join(sorted(first & second)))
                self.same(lattice.join(one, other), "s" + "".join(sorted(first | second)))

    def test_wrong_letters(self):
        for letters in NO_WORDS + ("",):
            self.raised(BadWord("letters"), lattice_of_sets, letters)
        self.raised(Twice("b"), lattice_of_sets, "abba")
        self.raised(Twice("a"), lattice_of_sets, "abcdea")
        self.raised(Twice("s"), lattice_of_sets, "ss")
        self.raised(TooMany("letters", 3), lattice_of_sets, "abcd")
        self.raised(TooMany("letters", 3), lattice_of_sets, "abcdefghijklmnopqrstuvwxyz")
        self.assertEqual(lattice_of_sets("s").names, ("s", "ss"))


class CarriedTest(Case):
    def test_proportions_are_carried_and_what_is_none(self):
        for names in (["a"], ["a", "b"], ["a", "b", "c"]):
            lattice = lattice_of_sets("".join(names))
            for four in itertools.product(subsets(names), repeat=4):
                rows = [row_of_set(names, some) for some in four]
                wanted = is_like_sets(*four)
                self.is_right(wanted, is_proportion, *rows)
                self.is_right(wanted, is_like_things, lattice, *["s" + "".join(some) for some in four])
                if len(names) < 3 or sum(map(len, four)) % 3 == 0:
                    self.is_right(wanted, is_like_words, *[word_of_row(row) for row in rows])

    def test_fourths_in_the_lattice(self):
        self.same(fourths_in(lattice_of_sets("ab"), "sa", "sab", "s"), ("sb",))
        self.same(fourths_in(lattice_of_sets("ab"), "sa", "s", "s"), ())
