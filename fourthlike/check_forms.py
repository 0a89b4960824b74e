"""Whether papers on tables of forms are right."""

from fourthlike.checks import is_just, is_just_paper, is_word
from fourthlike.forms import need_forms, need_forms_and_cell
from fourthlike.gaps import paper_of, threes_of
from fourthlike.mended import Enough, NoSlips, Slips, agrees, are_few_cells, fewest_enough, fewest_slips, filled
from fourthlike.mended import gives_back, need_forms_and_most, need_no_gaps, pairs_of
from fourthlike.sharing import Sharing
from fourthlike.stems import Stems, Unstemmed, first_unmade


def shows_gap(forms, row, column, value):
    """Whether value is the paper of the cell, however many words it tells."""
    need_forms_and_cell(forms, row, column)
    return is_just_paper(value, paper_of(threes_of(forms, row, column), Sharing()))


def shows_filled(forms, value):
    """Whether value is the Filled."""
    need_forms(forms)
    return is_just_paper(value, filled(forms))


def are_cells_of(forms, cells):
    """Whether the value has cells of the table that have words, in order, each once."""
    if not isinstance(cells, tuple):
        return False
    return is_just(cells, tuple([pair for pair in pairs_of(forms) if any([is_just(cell, pair) for cell in cells])]))


def is_slips(forms, most, cells):
    """Whether the value has as few cells, at most so many, as can be, without which the table agrees."""
    if not are_cells_of(forms, cells) or len(cells) > most or not agrees(forms.without(cells), Sharing()):
        return False
    return len(cells) == len(fewest_slips(forms, most))


def shows_slips(forms, most, value):
    """Whether value is a Slips of as few cells as can be, at most so many, or the NoSlips."""
    need_forms_and_most(forms, most)
    if not are_few_cells(forms):
        return False
    if type(value) is Slips:
        return is_slips(forms, most, value.cells)
    return type(value) is NoSlips and is_just(value.most, most) and fewest_slips(forms, most) is None


def shows_enough(forms, value):
    """Whether value is an Enough of as few cells as can be."""
    need_no_gaps(forms)
    if not are_few_cells(forms) or type(value) is not Enough or not are_cells_of(forms, value.cells):
        return False
    return gives_back(forms, value.cells, Sharing()) and len(value.cells) == len(fewest_enough(forms))


def are_words(value, many):
    """Whether the value has so many words."""
    return isinstance(value, tuple) and len(value) == many and all([is_word(word) for word in value])


def make_all(forms, stems, endings):
    """Whether the values have stems and endings by which the table is made."""
    if not are_words(stems, len(forms.rows)) or not are_words(endings, len(forms.columns)):
        return False
    pairs = [(row, column) for row in forms.rows for column in forms.columns]
    made = [stem + ending for stem in stems for ending in endings]
    return all([forms.word_at(row, column) in (None, word) for (row, column), word in zip(pairs, made)])


def shows_stems(forms, value):
    """Whether value is a Stems by which the table is made, or the Unstemmed."""
    need_forms(forms)
    if type(value) is Stems:
        return make_all(forms, value.stems, value.endings)
    return type(value) is Unstemmed and is_just(value.parts, first_unmade(forms))
