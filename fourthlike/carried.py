"""Sets carried to rows, rows to words, subsets to a lattice."""

from fourthlike.checks import are_names, is_list, is_word
from fourthlike.errors import BadRow, BadWord, Misfit, TooMany
from fourthlike.lattices import Lattice
from fourthlike.nameneeds import need_names, need_once
from fourthlike.rows import MOST_PLACES, Row

LETTERS = "abcdefghijklmnopqrstuvwxyz"
MOST_LETTERS = 3


def need_set_names(names):
    """Raises an error unless these are 1 to 6 different names."""
    if not are_names(names) or len(names) > MOST_PLACES:
        raise BadRow("names")
    need_once(names)


def row_of_set(names, some):
    """The row with a 1 at the place of each name that is in the set."""
    need_set_names(names)
    if not is_list(some):
        raise BadRow("some")
    need_names(names, some)
    need_once(some)
    return Row(2, [1 if name in some else 0 for name in names])


def set_of_row(names, row):
    """The tuple of the names at whose places the row has a 1."""
    need_set_names(names)
    if not isinstance(row, Row):
        raise BadRow("row")
    if row.marks != 2:
        raise Misfit("marks")
    if len(row) != len(names):
        raise Misfit("places")
    return tuple([name for name, mark in zip(names, row.places) if mark == 1])


def word_of_row(row):
    """The word of the row, each place with letters of its own."""
    if not isinstance(row, Row):
        raise BadRow("row")
    return "".join([LETTERS[place * row.marks + mark] for place, mark in enumerate(row.places)])


def subsets_of(letters):
    """The list of all words of some of the letters, in their order."""
    found = [""]
    for letter in letters:
        found = [word + more for word in found for more in ("", letter)]
    return found


def lattice_of_sets(letters):
    """The lattice of all subsets of the letters."""
    if not is_word(letters) or letters == "":
        raise BadWord("letters")
    need_once(list(letters))
    if len(letters) > MOST_LETTERS:
        raise TooMany("letters", MOST_LETTERS)
    subsets = subsets_of(sorted(letters))
    pairs = [(one, other) for one in subsets for other in subsets if all([letter in other for letter in one])]
    return Lattice(["s" + one for one in subsets], [("s" + one, "s" + other) for one, other in pairs])
