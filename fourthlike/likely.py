"""What comes of the cases of a book by fourths alone, turn by turn."""

from fourthlike.bits import fourth_outcome
from fourthlike.books import need_book
from fourthlike.closings import fourth_places
from fourthlike.errors import TooMany
from fourthlike.papers import Denial, Paper

MOST_PLACES = 4


class Likely(Paper):
    """Triples (row, outcome, three) of the rows that get outcomes by fourths."""

    def __init__(self, rows):
        Paper.__init__(self, "likely", rows)
        self.rows = self.parts[0]


class Clash(Denial):
    """A row that is given both outcomes, and the threes that give it 0 and 1."""

    def __init__(self, row, one, other):
        Denial.__init__(self, "clash", row, one, other)
        self.row, self.one, self.other = self.parts


def given_by(stands):
    """A dict of the rows that are given outcomes by those that stand, each with a dict of outcomes to least threes."""
    rows = sorted(stands)
    found = {}
    for a in rows:
        for b in rows:
            for c in rows:
                row = fourth_places(a, b, c)
                outcome = None if row is None else fourth_outcome(stands[a], stands[b], stands[c])
                if outcome is not None:
                    found.setdefault(row, {}).setdefault(outcome, (a, b, c))
    return found


def rows_given_both(given):
    """The ascending list of the rows that are given both outcomes."""
    return sorted([row for row in given if len(given[row]) == 2])


def turns_of(book):
    """The list of the turns: what stands at first, and what is given; the last one clashes or gives nothing new."""
    stands = {row: outcome for row, outcome in book.cases}
    turns = []
    while True:
        given = given_by(stands)
        turns.append((stands, given))
        if len(given) == len(stands) or len(rows_given_both(given)) > 0:
            return turns
        stands = {row: min(given[row]) for row in given}


def rows_by_fourths(turns):
    """The list of (row, outcome, number of its turn) of the rows that get outcomes, if no turn clashes."""
    found = []
    for number, (stands, given) in enumerate(turns):
        found.extend([(row, min(given[row]), number) for row in sorted(given) if row not in stands])
    return found


def likely(book):
    """The Likely of a book, or the Clash."""
    need_book(book)
    if book.places > MOST_PLACES:
        raise TooMany("places", MOST_PLACES)
    turns = turns_of(book)
    last = turns[-1][1]
    both = rows_given_both(last)
    if len(both) > 0:
        return Clash(both[0], last[both[0]][0], last[both[0]][1])
    return Likely([(row, outcome, turns[number][1][row][outcome]) for row, outcome, number in rows_by_fourths(turns)])
