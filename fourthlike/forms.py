"""Tables of forms: rows and columns whose cells have words, or are gaps."""

from fourthlike.checks import are_lists_of, are_names, is_word
from fourthlike.errors import BadForms, BadText, TooMany
from fourthlike.nameneeds import is_one_of, need_names, need_once
from fourthlike.texts import different_names_at, item_at, items_of, need_end, need_sign
from fourthlike.wordneeds import need_short, need_short_words

MOST_ROWS = 4
MOST_COLUMNS = 4
MOST_CELLS = 12
MOST_LETTERS = 6
EMPTY = "."
GAP = "-"


class Forms:
    """A table of forms."""

    def __init__(self, rows, columns, cells):
        for part, names in (("rows", rows), ("columns", columns)):
            if not are_names(names):
                raise BadForms(part)
            need_once(names)
        if not are_cells(rows, columns, cells):
            raise BadForms("cells")
        need_bounds(rows, columns, cells)
        self.rows = tuple(rows)
        self.columns = tuple(columns)
        pairs = [(row, column) for row in rows for column in columns]
        self.cells = tuple([(row, column, cells[row, column]) for row, column in pairs if (row, column) in cells])
        self.gaps = tuple([pair for pair in pairs if pair not in cells])
        self._words = {(row, column): word for row, column, word in self.cells}

    def __eq__(self, other):
        return (isinstance(other, Forms) and self.rows == other.rows and self.columns == other.columns
                and self.cells == other.cells)

    def __str__(self):
        return " ".join([*self.rows, "/", *self.columns, ":", *items_of_cells(self.rows, self.columns, self._words)])

    def word_at(self, row, column):
        """The word of the cell, None for a gap."""
        need_cell(self, row, column)
        return self._words.get((row, column))

    def with_word(self, row, column, word):
        """The table with this word in the cell."""
        need_cell(self, row, column)
        need_short_words([("word", word)], MOST_LETTERS)
        cells = {pair: self._words[pair] for pair in self._words}
        cells[row, column] = word
        return Forms(self.rows, self.columns, cells)

    def without(self, cells):
        """The table in which these cells are gaps, too."""
        if not are_lists_of(cells, 2):
            raise BadForms("cells")
        for row, column in cells:
            need_cell(self, row, column)
        out = {(row, column): True for row, column in cells}
        return Forms(self.rows, self.columns, {pair: self._words[pair] for pair in self._words if pair not in out})

    def turned(self):
        """The table with rows and columns exchanged."""
        return Forms(self.columns, self.rows, {(column, row): word for row, column, word in self.cells})

    @staticmethod
    def read(text):
        """The table whose text this is."""
        items = items_of(text)
        rows = different_names_at(items, 0, MOST_ROWS)
        need_sign(items, len(rows), "/")
        at = len(rows) + 1
        columns = different_names_at(items, at, min(MOST_COLUMNS, MOST_CELLS // len(rows)))
        need_sign(items, at + len(columns), ":")
        return Forms(rows, columns, cells_at(items, at + len(columns) + 1, rows, columns))


def are_cells(rows, columns, cells):
    """Whether the value is a dict from pairs of these rows and columns to words."""
    if not isinstance(cells, dict) or not all([isinstance(pair, tuple) and len(pair) == 2 for pair in cells]):
        return False
    if not all([is_one_of(row, rows) and is_one_of(column, columns) for row, column in cells]):
        return False
    return all([is_word(cells[pair]) for pair in cells])


def need_bounds(rows, columns, cells):
    """Raises TooMany for a table beyond the bounds."""
    if len(rows) > MOST_ROWS:
        raise TooMany("rows", MOST_ROWS)
    if len(columns) > MOST_COLUMNS:
        raise TooMany("columns", MOST_COLUMNS)
    if len(rows) * len(columns) > MOST_CELLS:
        raise TooMany("cells", MOST_CELLS)
    need_short([cells[pair] for pair in cells], MOST_LETTERS)


def items_of_cells(rows, columns, words):
    """The item of the text of each cell, row by row."""
    found = [words.get((row, column)) for row in rows for column in columns]
    return [GAP if word is None else EMPTY if word == "" else word for word in found]


def cells_at(items, at, rows, columns):
    """The dict of the cells whose items stand there and behind, up to the end."""
    cells = {}
    for pair in [(row, column) for row in rows for column in columns]:
        item = item_at(items, at)
        if item != EMPTY and item != GAP and not (is_word(item) and 1 <= len(item) <= MOST_LETTERS):
            raise BadText(0, at)
        if item != GAP:
            cells[pair] = "" if item == EMPTY else item
        at += 1
    need_end(items, at)
    return cells


def need_forms(forms):
    """Raises BadForms unless this is a table of forms."""
    if not isinstance(forms, Forms):
        raise BadForms("forms")


def need_cell(forms, row, column):
    """Raises NoName unless these are a row and a column of the table."""
    need_names(forms.rows, (row,))
    need_names(forms.columns, (column,))


def need_forms_and_cell(forms, row, column):
    """Raises an error unless these are a table and a cell of it."""
    need_forms(forms)
    need_cell(forms, row, column)
