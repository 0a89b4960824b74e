"""Tables made by stems and endings, against a slow trial of all cuts."""

import itertools

from fourthlike.errors import BadForms
from fourthlike.forms import Forms
from fourthlike.gaps import gap_of, odd_block
from fourthlike.stems import Stems, Unstemmed, stems_of
from tests.helpers import Case
from tests.test_forms import COLUMNS, NO_FORMS, ROWS, made_forms, pairs_in, some_forms, words_in
from tests.test_layings import words_up_to


def slow_is_made(cells):
    """Whether some stems and endings make the words of these cells: all ways to cut each word are tried."""
    def cut(at, stems, endings):
        if at == len(cells):
            return True
        row, column, word = cells[at]
        for length in range(len(word) + 1):
            stem, ending = word[:length], word[length:]
            if stems.get(row, stem) == stem and endings.get(column, ending) == ending:
                if cut(at + 1, {**stems, row: stem}, {**endings, column: ending}):
                    return True
        return False
    return cut(0, {}, {})


def slow_unmade(forms):
    """The first cell up to which nothing makes the words, None if they are made."""
    for many in range(len(forms.cells) + 1):
        if not slow_is_made(forms.cells[:many]):
            return forms.cells[many - 1][:2]
    return None


def is_made_by(forms, stems, endings):
    """Whether the words are the stems with the endings behind them."""
    stem, ending = dict(zip(forms.rows, stems)), dict(zip(forms.columns, endings))
    return all(stem[row] + ending[column] == word for row, column, word in forms.cells)


class StemsTest(Case):
    def look_at(self, forms):
        """Fails unless the answer is right; returns its kind word."""
        found = stems_of(forms)
        unmade = slow_unmade(forms)
        if unmade is None:
            self.assertIs(type(found), Stems)
            self.assertEqual((len(found.stems), len(found.endings)), (len(forms.rows), len(forms.columns)))
            self.assertTrue(is_made_by(forms, found.stems, found.endings))
        else:
            self.same(found, Unstemmed(*unmade))
        self.same(stems_of(forms), found)
        return found.word

    def test_all_tables_of_small_words(self):
        pairs = list(itertools.product(ROWS[:2], COLUMNS[:2]))
        for words in itertools.product(words_up_to(2) + [None], repeat=4):
            cells = {pair: word for pair, word in zip(pairs, words) if word is not None}
            self.look_at(Forms(ROWS[:2], COLUMNS[:2], cells))

    def test_all_tables_of_one_letter(self):
        pairs = list(itertools.product(ROWS[:3], COLUMNS[:2]))
        for words in itertools.product(["", "a", "aa", None], repeat=6):
            cells = {pair: word for pair, word in zip(pairs, words) if word is not None}
            self.look_at(Forms(ROWS[:3], COLUMNS[:2], cells))

    def test_made_and_spoilt_tables(self):
        for forms in made_forms(200, seed=41, most=3):
            self.assertEqual(self.look_at(forms), "stems")
        found = [self.look_at(forms) for forms in made_forms(300, spoilt=0.1, seed=42) + some_forms(100, gaps=0.6)]
        self.assertTrue(60 < found.count("stems") < 340)

    def test_parts_that_nothing_joins(self):
        forms = Forms.read("x y z w / p q r : ab a - bb b - - - - - - cd")
        self.assertEqual(self.look_at(forms), "stems")
        spoilt = Forms.read("x y z w / p q : ab a bb b - - - -")
        self.assertEqual(self.look_at(spoilt), "stems")
        self.same(stems_of(Forms.read("x y z / p q r : a - - - b c - bb d")).parts, ("z", "r"))
        self.same(stems_of(Forms(["x"], ["p"], {})).parts, (("",), ("",)))

    def test_long_words_come_shortly(self):
        for forms in made_forms(40, [(3, 4), (4, 3)], 0.0, 0.0, 43, "a", 3):
            self.assertTrue(self.shortly(stems_of, forms))
        for forms in made_forms(40, [(3, 4), (4, 3)], 0.0, 0.1, 44, "a", 3):
            self.shortly(stems_of, forms)

    def test_made_tables_agree(self):
        for forms in made_forms(60, seed=45, gaps=0.3):
            found = stems_of(forms)
            self.assertIsNone(odd_block(forms))
            stem, ending = dict(zip(forms.rows, found.stems)), dict(zip(forms.columns, found.endings))
            for row, column in pairs_in(forms):
                paper = gap_of(forms, row, column)
                self.assertTrue(paper)
                if paper.word == "forcedform":
                    # Other cuts would make another word, but only where no source tells it.
                    self.same(paper.form, stem[row] + ending[column])
                if paper.word == "openform":
                    self.assertIn(stem[row] + ending[column], paper.forms)
            self.assertTrue(all(stem[row] + ending[column] == word for (row, column), word in words_in(forms).items()))

    def test_errors(self):
        for value in NO_FORMS:
            self.raised(BadForms("forms"), stems_of, value)
