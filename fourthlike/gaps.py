"""What the words of a table of forms tell of its cells: free, forced, open or torn; blocks."""

from fourthlike.errors import TooMany
from fourthlike.forms import need_forms, need_forms_and_cell
from fourthlike.papers import Denial, Paper
from fourthlike.sharing import Sharing
from fourthlike.sublots import lots_below

MOST_WORDS = 400


class FreeGap(Paper):
    """A cell without a source."""

    def __init__(self):
        Paper.__init__(self, "freegap")


class ForcedForm(Paper):
    """The one word that all sources share."""

    def __init__(self, form):
        Paper.__init__(self, "forcedform", form)
        self.form = self.parts[0]


class OpenForm(Paper):
    """All words that all sources share, ascending."""

    def __init__(self, forms):
        Paper.__init__(self, "openform", forms)
        self.forms = self.parts[0]


class Torn(Denial):
    """The numbers of the fewest sources that share no word."""

    def __init__(self, sources):
        Denial.__init__(self, "torn", sources)
        self.sources = self.parts[0]


def sources(forms, row, column):
    """The tuple of the sources of the cell, in order."""
    need_forms_and_cell(forms, row, column)
    others = [(s, e) for s in forms.rows if s != row for e in forms.columns if e != column]
    return tuple([(s, e) for s, e in others if None not in three_of(forms, row, column, s, e)])


def three_of(forms, row, column, s, e):
    """The three words whose fourths the pair of another row and another column gives to the cell."""
    return forms.word_at(s, e), forms.word_at(s, column), forms.word_at(row, e)


def threes_of(forms, row, column):
    """The list of the three words of each source of the cell."""
    return [three_of(forms, row, column, s, e) for s, e in sources(forms, row, column)]


def fewest_torn(threes, sharing):
    """The numbers of the fewest threes that share no word, of equally few the least tuple; all share none."""
    lots = lots_below(len(threes), 1, len(threes))
    return [lot for lot in lots if len(sharing.shared([threes[number] for number in lot])) == 0][0]


def paper_of(threes, sharing):
    """The paper of a cell whose sources have these threes of words, however many they share."""
    if len(threes) == 0:
        return FreeGap()
    words = sharing.shared(threes)
    if len(words) == 0:
        return Torn(fewest_torn(threes, sharing))
    return ForcedForm(words[0]) if len(words) == 1 else OpenForm(words)


def gap_of(forms, row, column):
    """The paper of the cell, as if it were a gap."""
    need_forms_and_cell(forms, row, column)
    paper = paper_of(threes_of(forms, row, column), Sharing())
    if type(paper) is OpenForm and len(paper.forms) > MOST_WORDS:
        raise TooMany("words", MOST_WORDS)
    return paper


def twos_of(names):
    """The list of the pairs of two of the names, in their order."""
    return [(one, other) for at, one in enumerate(names) for other in names[at + 1:]]


def words_of(forms, block):
    """The four words of a block: those of its first row, then those of its second one; None for a gap."""
    r, s, c, e = block
    return tuple([forms.word_at(row, column) for row in (r, s) for column in (c, e)])


def blocks(forms):
    """The tuple of all blocks, by the numbers of their rows, then of their columns."""
    need_forms(forms)
    found = [(r, s, c, e) for r, s in twos_of(forms.rows) for c, e in twos_of(forms.columns)]
    return tuple([block for block in found if None not in words_of(forms, block)])


def odd_blocks(forms, sharing):
    """The list of the blocks that are not like, in order."""
    return [block for block in blocks(forms) if not sharing.are_like(words_of(forms, block))]


def odd_block(forms):
    """The first block that is not like, None if all are."""
    need_forms(forms)
    found = odd_blocks(forms, Sharing())
    return found[0] if len(found) > 0 else None
