"""Tables of forms that are made by stems and endings."""

from fourthlike.forms import need_forms
from fourthlike.papers import Denial, Paper


class Stems(Paper):
    """The stems of all rows and the endings of all columns."""

    def __init__(self, stems, endings):
        Paper.__init__(self, "stems", stems, endings)
        self.stems, self.endings = self.parts


class Unstemmed(Denial):
    """The first cell up to which the words are made by no stems and endings."""

    def __init__(self, row, column):
        Denial.__init__(self, "unstemmed", row, column)
        self.row, self.column = self.parts


def put_or_same(found, name, part):
    """Puts this part under the name, if there is none; whether just this part is there."""
    found.setdefault(name, part)
    return found[name] == part


def put_behind(cell, stems, endings):
    """Puts in what the stem or the ending of the cell makes the other one; whether they make the word."""
    row, column, word = cell
    if row in stems:
        return word.startswith(stems[row]) and put_or_same(endings, column, word[len(stems[row]):])
    cut = len(word) - len(endings[column])
    return word.endswith(endings[column]) and put_or_same(stems, row, word[:cut])


def settled_by(cells, row, stem):
    """The pair of the stems and the endings that come of the stem of this row, None if they do not make the words."""
    stems = {row: stem}
    endings = {}
    left = list(cells)
    near = [cell for cell in left if cell[0] in stems]
    while len(near) > 0:
        for cell in near:
            if not put_behind(cell, stems, endings):
                return None
        left = [cell for cell in left if cell not in near]
        near = [cell for cell in left if cell[0] in stems or cell[1] in endings]
    return stems, endings


def first_settled(cells, row):
    """The first such pair, from no letters of the row's words on, None if there is none."""
    word = [cell[2] for cell in cells if cell[0] == row][0]
    for length in range(len(word) + 1):
        found = settled_by(cells, row, word[:length])
        if found is not None:
            return found
    return None


def stems_and_endings(cells):
    """The pair of dicts of stems and endings that make the words of these cells, None if there are none."""
    stems = {}
    endings = {}
    for row, _, _ in cells:
        if row not in stems:
            found = first_settled(cells, row)
            if found is None:
                return None
            stems.update(found[0])
            endings.update(found[1])
    return stems, endings


def first_unmade(forms):
    """The pair of the first cell up to which no stems and endings make the words, None if all are made."""
    for many in range(1, len(forms.cells) + 1):
        if stems_and_endings(forms.cells[:many]) is None:
            return forms.cells[many - 1][:2]
    return None


def stems_of(forms):
    """A Stems by which the table is made, otherwise the Unstemmed."""
    need_forms(forms)
    unmade = first_unmade(forms)
    if unmade is not None:
        return Unstemmed(unmade[0], unmade[1])
    stems, endings = stems_and_endings(forms.cells)
    return Stems([stems.get(row, "") for row in forms.rows], [endings.get(column, "") for column in forms.columns])
