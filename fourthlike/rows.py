"""Rows of marks."""

from fourthlike.checks import is_order_of, is_row, is_within
from fourthlike.errors import BadNumber, BadRow
from fourthlike.texts import items_of, need_end, need_sign, number_at

LEAST_MARKS = 2
MOST_MARKS = 4
MOST_PLACES = 6


class Row:
    """A row with 2 to 4 marks at 1 to 6 places."""

    def __init__(self, marks, places):
        if not is_within(marks, LEAST_MARKS, MOST_MARKS):
            raise BadNumber("marks")
        if not is_row(places) or not 1 <= len(places) <= MOST_PLACES:
            raise BadRow("places")
        if not all([is_within(mark, 0, marks - 1) for mark in places]):
            raise BadRow("places")
        self.marks = marks
        self.places = tuple(places)

    def __len__(self):
        return len(self.places)

    def __eq__(self, other):
        return isinstance(other, Row) and self.marks == other.marks and self.places == other.places

    def __str__(self):
        return " ".join([str(self.marks), ":", *[str(mark) for mark in self.places]])

    def renamed(self, order):
        """The row in which mark m has become order[m]."""
        if not is_order_of(order, self.marks):
            raise BadNumber("order")
        return Row(self.marks, [order[mark] for mark in self.places])

    def moved(self, order):
        """The row in which at place i stands what stood at place order[i]."""
        if not is_order_of(order, len(self.places)):
            raise BadNumber("order")
        return Row(self.marks, [self.places[place] for place in order])

    @staticmethod
    def read(text):
        """The row whose text this is."""
        return row_from(items_of(text), 0)


def row_from(items, at):
    """The row whose text stands there and behind, up to the end."""
    marks = number_at(items, at, LEAST_MARKS, MOST_MARKS)
    need_sign(items, at + 1, ":")
    end = min(max(len(items), at + 3), at + 2 + MOST_PLACES)
    places = [number_at(items, place, 0, marks - 1) for place in range(at + 2, end)]
    need_end(items, end)
    return Row(marks, places)
