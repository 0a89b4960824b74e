"""Tables filled turn by turn, mended, and told by their fewest cells."""

import itertools
import random

from fourthlike.errors import BadForms, BadNumber, TooMany
from fourthlike.forms import Forms
from fourthlike.mended import Enough, Filled, NoSlips, Slips, fewest_cells, filled, filled_forms, slips
from tests.helpers import NO_NUMBERS, Case
from tests.test_forms import NO_FORMS, SIZES, made_forms, pairs_in, some_forms, words_in
from tests.test_gaps import slow_blocks, slow_gap, slow_shared, slow_sources

SMALL = [(rows, columns) for rows, columns in SIZES if rows * columns <= 9]


def slow_filling(forms):
    """The cells that get words, with their turns, and the table behind them."""
    found = []
    for turn in itertools.count():
        given = {}
        for row, column in forms.gaps:
            lots = [words for _, words in slow_sources(forms, row, column)]
            shared = slow_shared(lots) if lots else ()
            if len(shared) == 1 and len(shared[0]) <= 6:
                given[row, column] = shared[0]
        if not given:
            return tuple(found), forms
        found.extend((*pair, given[pair], turn) for pair in pairs_in(forms) if pair in given)
        forms = Forms(forms.rows, forms.columns, {**words_in(forms), **given})


def slow_filled(forms):
    """The Filled of the table."""
    cells, behind = slow_filling(forms)
    names = {"freegap": "free", "forcedform": "forced", "openform": "open", "torn": "torn"}
    return Filled(cells, [(*pair, names[slow_gap(behind, *pair).word]) for pair in behind.gaps])


def slow_agrees(forms):
    """Whether all blocks are like and no gap is torn."""
    return all(like for _, like in slow_blocks(forms)) and all(slow_gap(forms, *pair) for pair in forms.gaps)


def lots_without(forms, most):
    """All lots of at most so many cells that have words, the fewest first, then the first ones, without which
    the table agrees."""
    pairs = [pair for pair in pairs_in(forms) if pair in words_in(forms)]
    return [some for many in range(min(most, len(pairs)) + 1) for some in itertools.combinations(pairs, many)
            if slow_agrees(forms.without(some))]


def lots_enough(forms):
    """All lots of cells from whose words alone filling gives the table back, the fewest first, then the first ones."""
    pairs = pairs_in(forms)
    found = []
    for many in range(len(pairs) + 1):
        for some in itertools.combinations(pairs, many):
            part = forms.without([pair for pair in pairs if pair not in some])
            if slow_filling(part)[1] == forms:
                found.append(some)
    return found


WHOLE = [forms for forms in made_forms(30, [(1, 1), (1, 3), (2, 2), (3, 2), (2, 3), (2, 4)], 0.0, 0.0, 21)
         + made_forms(10, [(2, 3), (2, 2)], 0.0, 0.2, 22)]
# Words of one letter: any cells that join all rows and columns fill it.
SQUARE = Forms.read("x y z / p q r : . a aa a aa aaa aa aaa aaaa")
SPOILT = (some_forms(40, SMALL, 0.3, 23) + made_forms(60, SMALL, 0.1, 0.15, 24)
          + made_forms(10, [(3, 3)], 0.0, 0.1, 25, "abc", 2))


class FilledTest(Case):
    def test_tables(self):
        turns = set()
        for forms in (made_forms(150, gaps=0.4, spoilt=0.05, seed=26) + some_forms(60, gaps=0.4, seed=27)
                      + made_forms(60, [(3, 4), (4, 3)], 0.5, 0.0, 28, "ab", 2)):
            wanted = slow_filled(forms)
            self.same(filled(forms), wanted)
            self.assertEqual(filled_forms(forms), slow_filling(forms)[1])
            turns |= {turn for _, _, _, turn in wanted.cells} | {what for _, _, what in wanted.left}
        self.assertTrue({0, 1, 2, "free", "open", "torn"} <= turns)

    def test_words_of_six_letters_and_seven(self):
        for text, cells, left in [
                ("x y / p q : a a bbbbbb -", (("y", "q", "bbbbbb", 0),), ()),
                ("x y / p q : . b bbbbb -", (("y", "q", "bbbbbb", 0),), ()),
                ("x y / p q : . b bbbbbb -", (), (("y", "q", "forced"),)),
                ("x y / p q : . bb bbbbb -", (), (("y", "q", "forced"),)),
                ("x y z / p q : . b bbbbbb - - b", (("z", "p", "", 0),), (("y", "q", "forced"),)),
                ("x y z / p q : . bbb bbbbb - b -", (("z", "q", "bbbb", 0),), (("y", "q", "forced"),))]:
            forms = Forms.read(text)
            self.same(filled(forms).parts, (cells, left))
            self.same(filled(forms), slow_filled(forms))
            words = {**words_in(forms), **{(row, column): word for row, column, word, _ in cells}}
            self.assertEqual(filled_forms(forms), Forms(forms.rows, forms.columns, words))

    def test_turns(self):
        # Each gap of the second row gets its word when the one ahead has stood for a turn.
        forms = Forms.read("x y z / p q r : aab aa - ab a - - - b")
        self.same(filled(forms), slow_filled(forms))
        long = Forms.read("x y z / p q r : aa ab - - bb bc - - cc")
        self.same(filled(long), slow_filled(long))
        chain = Forms.read("x y z w / p q r : a b - c - - - - - - - -")
        self.same([turn for _, _, _, turn in filled(chain).cells], [])
        stairs = Forms.read("x y z / p q r : a aa - aa - aaa - aaa -")
        self.same(filled(stairs), slow_filled(stairs))
        self.assertEqual({turn for _, _, _, turn in filled(stairs).cells}, {0, 1})

    def test_more_than_400_words_are_open(self):
        cells = {("x", "p"): "", ("x", "q"): "abcdef", ("y", "p"): "ghijkl"}
        self.same(self.shortly(filled, Forms(["x", "y"], ["p", "q"], cells)).left, (("y", "q", "open"),))

    def test_whole_tables_and_tables_of_gaps(self):
        self.same(filled(SQUARE).parts, ((), ()))
        self.same(filled(Forms(["x"], ["p"], {})).parts, ((), (("x", "p", "free"),)))

    def test_bounds_come_shortly(self):
        for forms in made_forms(20, [(3, 4), (4, 3)], 0.4, 0, 29, "abc", 3) + some_forms(
                10, [(3, 4), (4, 3)], 0.3, 30, "abcde", 6):
            self.shortly(filled, forms)

    def test_errors(self):
        for value in NO_FORMS:
            self.raised(BadForms("forms"), filled, value)
            self.raised(BadForms("forms"), filled_forms, value)


class SlipsTest(Case):
    def test_tables(self):
        sizes = set()
        for forms in SPOILT:
            lots = lots_without(forms, 2)
            for most in (0, 1, 2):
                found = slips(forms, most)
                right = [some for some in lots if len(some) <= most]
                self.same(found, Slips(right[0]) if right else NoSlips(most))
                sizes.add((most, len(right[0]) if right else None))
        self.assertEqual(sizes, {(0, 0), (0, None), (1, 0), (1, 1), (1, None), (2, 0), (2, 1), (2, 2), (2, None)})

    def test_three_slips(self):
        chance = random.Random(31)
        sizes = set()
        for forms in chance.sample(SPOILT, 25) + made_forms(12, [(3, 3)], 0.0, 0.4, 32):
            lots = lots_without(forms, 3)
            self.same(slips(forms, 3), Slips(lots[0]) if lots else NoSlips(3))
            sizes.add(len(lots[0]) if lots else None)
        self.assertTrue({0, 1, 2, 3, None} <= sizes)

    def test_few_cells(self):
        self.same(slips(Forms(["x"], ["p"], {}), 3), Slips(()))
        self.same(slips(Forms(["x"], ["p"], {("x", "p"): "a"}), 3), Slips([]))

    def test_bounds(self):
        for rows, columns in SIZES:
            forms = some_forms(1, [(rows, columns)], 0.9)[0]
            if rows * columns > 9:
                self.raised(TooMany("cells", 9), slips, forms, 0)
                for most in (-1, 4) + NO_NUMBERS:
                    self.raised(BadNumber("most"), slips, forms, most)
            else:
                self.assertIn(slips(forms, 3).word, ("slips", "noslips"))
        for value in NO_FORMS:
            self.raised(BadForms("forms"), slips, value, None)
        for most in (-1, 4, 10 ** 30) + NO_NUMBERS:
            self.raised(BadNumber("most"), slips, SQUARE, most)

    def test_bounds_come_shortly(self):
        for forms in some_forms(6, [(3, 3)], 0.0, 33, "abc", 6) + made_forms(6, [(3, 3)], 0.0, 0.3, 34, "abcd", 3):
            self.shortly(slips, forms, 3)


class FewestCellsTest(Case):
    def test_tables(self):
        sizes = set()
        for forms in WHOLE + [SQUARE]:
            lots = lots_enough(forms)
            found = fewest_cells(forms)
            self.same(found, Enough(lots[0]))
            joined = len(forms.rows) + len(forms.columns) - 1
            self.assertGreaterEqual(len(found.cells), joined)
            sizes.add(len(found.cells) - joined)
        self.assertTrue({0, 1} <= sizes)

    def test_tables_of_three_rows_and_columns(self):
        for forms in made_forms(3, [(3, 3)], 0.0, 0.0, 35, "ab", 1):
            self.same(fewest_cells(forms), Enough(lots_enough(forms)[0]))

    def test_tables_that_do_not_agree(self):
        forms = Forms.read("x y / p q : a b c d")
        self.same(fewest_cells(forms).cells, tuple(pairs_in(forms)))

    def test_errors(self):
        for value in NO_FORMS:
            self.raised(BadForms("forms"), fewest_cells, value)
        for rows, columns in SIZES:
            whole = some_forms(1, [(rows, columns)], 0.0)[0]
            self.raised(BadForms("gaps"), fewest_cells, whole.without([pairs_in(whole)[-1]]))
            if rows * columns > 9:
                self.raised(TooMany("cells", 9), fewest_cells, whole)

    def test_bounds_come_shortly(self):
        for forms in some_forms(5, [(3, 3)], 0.0, 36, "abc", 6) + made_forms(5, [(3, 3)], 0.0, 0.0, 37, "abcd", 3):
            self.shortly(fewest_cells, forms)
