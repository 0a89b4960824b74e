"""The fewest rows that make a closed lot."""

from itertools import combinations

from fourthlike.closings import closing, distinct_places
from fourthlike.errors import TooMany
from fourthlike.lots import closed_lot
from fourthlike.papers import Paper
from fourthlike.rowneeds import need_lot
from fourthlike.rows import Row

MOST_ROWS = 8


class Makers(Paper):
    """Rows that make a lot, and the Closed of just these."""

    def __init__(self, rows, closed):
        Paper.__init__(self, "makers", rows, closed)
        self.rows, self.closed = self.parts


def whole_lot(rows):
    """The rows of the closed lot of rows, ascending, as tuples of the marks at their places."""
    need_lot(rows)
    found, _ = closing(list(distinct_places(rows)))
    if len(found) > MOST_ROWS:
        raise TooMany("rows", MOST_ROWS)
    return sorted(found)


def first_making(lot, size):
    """The first of the tuples of so many rows of an ascending closed lot that make it, or None."""
    for some in combinations(lot, size):
        found, _ = closing(some)
        if len(found) == len(lot):
            return some
    return None


def fewest_making(lot):
    """The first of the tuples of the fewest rows that make this ascending closed lot."""
    for size in range(1, len(lot)):
        some = first_making(lot, size)
        if some is not None:
            return some
    return tuple(lot)


def fewest_makers(rows):
    """The Makers of the fewest rows that make the closed lot of rows, the first of these."""
    lot = whole_lot(rows)
    some = [Row(rows[0].marks, places) for places in fewest_making(lot)]
    return Makers(some, closed_lot(some))
