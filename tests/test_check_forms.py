"""Whether papers on tables of forms are right."""

import itertools
from unittest.mock import ANY

from fourthlike.check_forms import shows_enough, shows_filled, shows_gap, shows_slips, shows_stems
from fourthlike.errors import BadForms, BadNumber, NoName
from fourthlike.forms import Forms
from fourthlike.gaps import ForcedForm, FreeGap, OpenForm, Torn, gap_of
from fourthlike.mended import Enough, Filled, NoSlips, Slips, fewest_cells, filled, filled_forms, slips
from fourthlike.papers import Denial, Paper
from fourthlike.stems import Stems, Unstemmed, stems_of
from tests.helpers import NO_NAMES, NO_NUMBERS, ODD_VALUES, Case, bent_papers, plain
from tests.test_forms import NO_FORMS, SIZES, made_forms, pairs_in, some_forms, words_in
from tests.test_gaps import TABLES, slow_gap, slow_shared, slow_sources
from tests.test_layings import words_up_to
from tests.test_mended import SPOILT, SQUARE, WHOLE, lots_enough, lots_without, slow_filled
from tests.test_stems import is_made_by, slow_unmade

NO_PAPERS = ODD_VALUES + (0, "", "free", (), [], ANY, FreeGap, ForcedForm, OpenForm, Torn, Filled, Slips, NoSlips,
                          Enough, Stems, Unstemmed, Paper("freegap"), Paper("forcedform", "a"), Paper("openform", ()),
                          Denial("torn", (0,)), Paper("filled", (), ()), Paper("slips", ()), Denial("noslips", 0),
                          Paper("enough", ()), Paper("stems", ("",), ("",)), Denial("unstemmed", "x", "p"))
BENDS = (None, True, False, 0, 1, 2, -1, 1.0, "", "a", "b", "ab", "x", "p", "free", "open", b"a", ANY, (), ("x", "p"),
         ("x", "p", "a"), ("a", "b"), (0,), (0, 1), {})


def just(value, wanted):
    """Whether both are one, and True and False are no numbers."""
    return repr(plain(value)) == repr(plain(wanted))


def is_one_of_lots(value, lots):
    """Whether the value is one of these lots of pairs."""
    return any(just(value, lot) for lot in lots)


def fewest_of(lots):
    """Those of the lots that have the fewest cells."""
    return [lot for lot in lots if len(lot) == len(lots[0])]


class CheckGapTest(Case):
    def test_bent_papers(self):
        for forms in TABLES[::4]:
            for row, column in pairs_in(forms)[::3]:
                wanted = slow_gap(forms, row, column)
                self.is_right(True, shows_gap, forms, row, column, gap_of(forms, row, column))
                for bent in bent_papers(wanted, BENDS):
                    self.is_right(just(bent, wanted), shows_gap, forms, row, column, bent)

    def test_other_papers(self):
        for forms in TABLES[::4]:
            for row, column in pairs_in(forms)[:2]:
                given = [words for _, words in slow_sources(forms, row, column)]
                shared = slow_shared(given) if given else ()
                wanted = slow_gap(forms, row, column)
                for paper in [FreeGap(), OpenForm(shared), OpenForm(shared[::-1]), OpenForm(shared + shared),
                              Torn([])] + [ForcedForm(word) for word in words_up_to(3)]:
                    self.is_right(just(paper, wanted), shows_gap, forms, row, column, paper)
                for many in range(len(given) + 1):
                    for some in itertools.combinations(range(len(given)), many):
                        self.is_right(just(Torn(some), wanted), shows_gap, forms, row, column, Torn(list(some)))

    def test_torn_by_the_least_of_the_fewest(self):
        forms = Forms.read("x y z w / p q : - . abab a abba a baba c")
        for paper, wanted in [(Torn((2,)), True), (Torn((0, 1)), False), (Torn((0, 2)), False),
                              (Torn((0, 1, 2)), False), (Torn((True,)), False), (Torn([2]), True), (Torn(2), False)]:
            self.is_right(wanted, shows_gap, forms, "x", "p", paper)

    def test_more_than_400_words(self):
        cells = {("x", "p"): "", ("x", "q"): "abcdef", ("y", "p"): "ghijkl"}
        forms = Forms(["x", "y"], ["p", "q"], cells)
        paper = slow_gap(forms, "y", "q")
        self.assertEqual(len(paper.forms), 924)
        self.is_right(True, self.shortly, shows_gap, forms, "y", "q", paper)
        self.is_right(False, shows_gap, forms, "y", "q", OpenForm(paper.forms[:-1]))
        self.is_right(False, shows_gap, forms, "y", "q", OpenForm(paper.forms[:400]))
        self.is_right(False, shows_gap, forms, "y", "q", FreeGap())

    def test_other_values(self):
        forms = Forms.read("x y / p q : a a b -")
        for value in NO_PAPERS:
            for row, column in pairs_in(forms):
                self.is_right(False, shows_gap, forms, row, column, value)
            self.is_right(False, shows_filled, forms, value)
            self.is_right(False, shows_slips, forms, 0, value)
            self.is_right(False, shows_stems, forms, value)
            self.is_right(False, shows_enough, forms.with_word("y", "q", "b"), value)

    def test_errors(self):
        forms = Forms(["x", "y"], ["p", "q"], {})
        for value in NO_FORMS:
            self.raised(BadForms("forms"), shows_gap, value, None, None, None)
            self.raised(BadForms("forms"), shows_filled, value, Filled((), ()))
            self.raised(BadForms("forms"), shows_slips, value, None, None)
            self.raised(BadForms("forms"), shows_enough, value, None)
            self.raised(BadForms("forms"), shows_stems, value, None)
        for value in NO_NAMES + ("p", "z"):
            self.raised(NoName(value), shows_gap, forms, value, "?", FreeGap())
        for value in NO_NAMES + ("x", "r"):
            self.raised(NoName(value), shows_gap, forms, "y", value, FreeGap())
        for most in (-1, 4, 10 ** 30) + NO_NUMBERS:
            self.raised(BadNumber("most"), shows_slips, forms, most, None)
            self.raised(BadNumber("most"), shows_slips, some_forms(1, [(3, 4)])[0], most, None)
        self.raised(BadForms("gaps"), shows_enough, forms, None)
        self.raised(BadForms("gaps"), shows_enough, some_forms(1, [(3, 4)], 1.0)[0], Enough(()))


class CheckFilledTest(Case):
    def test_bent_papers(self):
        for forms in made_forms(12, gaps=0.4, spoilt=0.05, seed=51) + some_forms(5, gaps=0.4, seed=52):
            wanted = slow_filled(forms)
            self.is_right(True, shows_filled, forms, filled(forms))
            for bent in bent_papers(wanted, BENDS[::2]):
                self.is_right(just(bent, wanted), shows_filled, forms, bent)


class CheckSlipsTest(Case):
    def test_all_lots(self):
        for forms in SPOILT[::3]:
            lots = lots_without(forms, 2)
            pairs = list(words_in(forms))
            for most in (0, 1, 2):
                right = fewest_of(lots) if lots and len(lots[0]) <= most else []
                self.is_right(True, shows_slips, forms, most, slips(forms, most))
                for many in range(4):
                    for some in itertools.combinations(pairs, many):
                        self.is_right(some in right, shows_slips, forms, most, Slips([list(pair) for pair in some]))
                for number in (-1, 0, 1, 2, 3, True, False, None, "0", ANY):
                    self.is_right(not right and just(number, most), shows_slips, forms, most, NoSlips(number))

    def test_bent_papers(self):
        for forms in SPOILT[1::3]:
            lots = lots_without(forms, 2)
            for bent in bent_papers(slips(forms, 2), BENDS) if lots else ():
                self.is_right(is_one_of_lots(bent.cells, fewest_of(lots)), shows_slips, forms, 2, bent)

    def test_tables_of_more_than_nine_cells(self):
        for rows, columns in SIZES:
            if rows * columns > 9:
                forms = made_forms(1, [(rows, columns)], 0.0)[0]
                self.is_right(False, shows_slips, forms, 0, Slips(()))
                self.is_right(False, shows_slips, forms.with_word("x", "p", "zzz"), 0, NoSlips(0))
                self.is_right(False, shows_enough, forms, Enough(pairs_in(forms)))
                cells = {(row, column): "a" * (one + other) for one, row in enumerate(forms.rows)
                         for other, column in enumerate(forms.columns)}
                alike = Forms(forms.rows, forms.columns, cells)
                cross = [pair for pair in pairs_in(alike) if "x" == pair[0] or "p" == pair[1]]
                self.assertEqual(filled_forms(alike.without([pair for pair in cells if pair not in cross])), alike)
                self.is_right(False, shows_enough, alike, Enough(cross))

    def test_bounds_come_shortly(self):
        for forms in some_forms(4, [(3, 3)], 0.0, 53, "abc", 6) + made_forms(4, [(3, 3)], 0.0, 0.3, 54, "abcd", 3):
            self.is_right(True, self.shortly, shows_slips, forms, 3, slips(forms, 3))


class CheckEnoughTest(Case):
    def test_all_lots(self):
        for forms in WHOLE + [Forms.read("x y / p q : a b c d")]:
            right = fewest_of(lots_enough(forms))
            self.is_right(True, shows_enough, forms, fewest_cells(forms))
            for many in range(len(pairs_in(forms)) + 1):
                for some in itertools.combinations(pairs_in(forms), many):
                    self.is_right(some in right, shows_enough, forms, Enough([list(pair) for pair in some]))

    def test_bent_papers(self):
        for forms in WHOLE[::2] + [SQUARE]:
            lots = fewest_of(lots_enough(forms)) if forms != SQUARE else None
            found = fewest_cells(forms)
            for bent in bent_papers(found, BENDS):
                if lots:
                    self.is_right(is_one_of_lots(bent.cells, lots), shows_enough, forms, bent)
                elif type(bent.cells) is not tuple or len(bent.cells) != 5:
                    self.is_right(False, shows_enough, forms, bent)

    def test_square(self):
        cross = [pair for pair in pairs_in(SQUARE) if "x" in pair or "p" in pair]
        self.is_right(True, shows_enough, SQUARE, Enough(cross))
        self.is_right(False, shows_enough, SQUARE, Enough(pairs_in(SQUARE)[:5]))
        self.is_right(False, shows_enough, SQUARE, Enough(pairs_in(SQUARE)))

    def test_bounds_come_shortly(self):
        for forms in some_forms(4, [(3, 3)], 0.0, 55, "abc", 6) + made_forms(4, [(3, 3)], 0.0, 0.0, 56, "abcd", 3):
            self.is_right(True, self.shortly, shows_enough, forms, fewest_cells(forms))


class CheckStemsTest(Case):
    def is_right_stems(self, forms, value):
        """Whether it is a Stems by which the table is made, or the Unstemmed."""
        if type(value) is Unstemmed:
            return just(value.parts, slow_unmade(forms))
        for words, names in ((value.stems, forms.rows), (value.endings, forms.columns)):
            if type(words) is not tuple or len(words) != len(names):
                return False
            if not all(type(word) is str and all("a" <= sign <= "z" for sign in word) for word in words):
                return False
        return is_made_by(forms, value.stems, value.endings)

    def test_bent_papers(self):
        for forms in made_forms(40, seed=57, spoilt=0.05) + some_forms(30, gaps=0.5, seed=58):
            found = stems_of(forms)
            self.is_right(True, shows_stems, forms, found)
            for bent in bent_papers(found, BENDS + ("A", "a ", "zzzzzzz")):
                self.is_right(self.is_right_stems(forms, bent), shows_stems, forms, bent)

    def test_all_stems_of_a_table(self):
        forms = Forms.read("x y / p q : ab abb b -")
        right = 0
        for words in itertools.product(words_up_to(2), repeat=4):
            paper = Stems(words[:2], words[2:])
            self.is_right(self.is_right_stems(forms, paper), shows_stems, forms, paper)
            right += self.is_right_stems(forms, paper)
        self.assertGreater(right, 1)

    def test_unstemmed_is_the_first(self):
        forms = Forms.read("x y / p q : a ab b ca")
        for row, column in pairs_in(forms):
            self.is_right((row, column) == ("y", "q"), shows_stems, forms, Unstemmed(row, column))
        forms = Forms.read("x y / p q : a ab b bb")
        for row, column in pairs_in(forms):
            self.is_right(False, shows_stems, forms, Unstemmed(row, column))
        self.is_right(False, shows_stems, forms, Unstemmed(None, None))
