"""Tables of forms filled, and mended."""

from fourthlike.errors import BadForms, TooMany
from fourthlike.forms import MOST_LETTERS, need_forms
from fourthlike.gaps import odd_blocks, threes_of
from fourthlike.numberneeds import need_within
from fourthlike.papers import Denial, Paper
from fourthlike.sharing import Sharing
from fourthlike.sublots import lots_below

MOST_SLIPS = 3
MOST_CELLS = 9


class Filled(Paper):
    """The gaps that get words, each with its turn, and those that are left, each with what it is."""

    def __init__(self, cells, left):
        Paper.__init__(self, "filled", cells, left)
        self.cells, self.left = self.parts


class Slips(Paper):
    """The fewest cells without which a table agrees."""

    def __init__(self, cells):
        Paper.__init__(self, "slips", cells)
        self.cells = self.parts[0]


class NoSlips(Denial):
    """So many cells at most do not do."""

    def __init__(self, most):
        Denial.__init__(self, "noslips", most)
        self.most = self.parts[0]


class Enough(Paper):
    """The fewest cells from which filling gives the table back."""

    def __init__(self, cells):
        Paper.__init__(self, "enough", cells)
        self.cells = self.parts[0]


def word_of_gap(forms, row, column, sharing):
    """What the gap is, and the word that is forced, None if none is."""
    threes = threes_of(forms, row, column)
    if len(threes) == 0:
        return "free", None
    words = sharing.shared(threes)
    if len(words) == 0:
        return "torn", None
    return ("forced", words[0]) if len(words) == 1 else ("open", None)


def next_words(forms, sharing):
    """The list of the triples (row, column, word) of the gaps that get words in the next turn, row by row."""
    found = [(row, column, word_of_gap(forms, row, column, sharing)[1]) for row, column in forms.gaps]
    return [(row, column, word) for row, column, word in found if word is not None and len(word) <= MOST_LETTERS]


def with_words(forms, cells):
    """The table with the words of these triples."""
    for row, column, word in cells:
        forms = forms.with_word(row, column, word)
    return forms


def filling_of(forms, sharing):
    """The table behind all turns, and the list of the quadruples (row, column, word, turn)."""
    found = []
    turn = 0
    cells = next_words(forms, sharing)
    while len(cells) > 0:
        found.extend([(row, column, word, turn) for row, column, word in cells])
        forms = with_words(forms, cells)
        turn += 1
        cells = next_words(forms, sharing)
    return forms, found


def filled(forms):
    """The Filled of a table."""
    need_forms(forms)
    sharing = Sharing()
    behind, cells = filling_of(forms, sharing)
    left = [(row, column, word_of_gap(behind, row, column, sharing)[0]) for row, column in behind.gaps]
    return Filled(cells, left)


def filled_forms(forms):
    """The table behind all turns."""
    need_forms(forms)
    return filling_of(forms, Sharing())[0]


def agrees(forms, sharing):
    """Whether all blocks are like, and no gap is torn."""
    if len(odd_blocks(forms, sharing)) > 0:
        return False
    return all([word_of_gap(forms, row, column, sharing)[0] != "torn" for row, column in forms.gaps])


def are_few_cells(forms):
    """Whether there are at most 9 cells, gaps counted, too."""
    return len(forms.rows) * len(forms.columns) <= MOST_CELLS


def need_few_cells(forms):
    """Raises TooMany if there are more than 9 cells, gaps counted, too."""
    if not are_few_cells(forms):
        raise TooMany("cells", MOST_CELLS)


def pairs_of(forms):
    """The list of the pairs of the cells that have words, in order."""
    return [(row, column) for row, column, _ in forms.cells]


def fewest_slips(forms, most):
    """The first of the fewest cells, at most so many, without which the table agrees; None if they do not do."""
    sharing = Sharing()
    pairs = pairs_of(forms)
    for lot in lots_below(len(pairs), 0, min(most, len(pairs))):
        some = tuple([pairs[number] for number in lot])
        if agrees(forms.without(some), sharing):
            return some
    return None


def need_forms_and_most(forms, most):
    """Raises an error unless these are a table and an integer from 0 to 3."""
    need_forms(forms)
    need_within("most", most, 0, MOST_SLIPS)


def slips(forms, most):
    """The Slips of at most so many cells, or the NoSlips."""
    need_forms_and_most(forms, most)
    need_few_cells(forms)
    some = fewest_slips(forms, most)
    return NoSlips(most) if some is None else Slips(some)


def gives_back(forms, some, sharing):
    """Whether filling gives the table back from the words of these cells alone.

    What is filled stays, so a word that is not the table's ends it.
    """
    part = forms.without([pair for pair in pairs_of(forms) if pair not in some])
    while len(part.gaps) > 0:
        cells = next_words(part, sharing)
        if len(cells) == 0 or any([forms.word_at(row, column) != word for row, column, word in cells]):
            return False
        part = with_words(part, cells)
    return True


def fewest_enough(forms):
    """The first of the fewest cells from which filling gives the table, which has no gap, back.

    They join all rows and columns, so they are no fewer than these together, less one.
    """
    sharing = Sharing()
    pairs = pairs_of(forms)
    for lot in lots_below(len(pairs), len(forms.rows) + len(forms.columns) - 1, len(pairs)):
        some = tuple([pairs[number] for number in lot])
        if gives_back(forms, some, sharing):
            return some
    return tuple(pairs)


def need_no_gaps(forms):
    """Raises BadForms unless this is a table without gaps."""
    need_forms(forms)
    if len(forms.gaps) > 0:
        raise BadForms("gaps")


def fewest_cells(forms):
    """The Enough of a table without gaps."""
    need_no_gaps(forms)
    need_few_cells(forms)
    return Enough(fewest_enough(forms))
