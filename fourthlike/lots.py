"""Closed lots of rows, and leaks."""

from fourthlike.closings import closing, distinct_places, fourth_places, least_leak
from fourthlike.papers import Denial, Paper
from fourthlike.rowneeds import need_lot
from fourthlike.rows import Row


class Closed(Paper):
    """The rows of a closed lot, each with its reason."""

    def __init__(self, rows, reasons):
        Paper.__init__(self, "closed", rows, reasons)
        self.rows, self.reasons = self.parts


class Leak(Denial):
    """The numbers of three rows of a lot, and their fourth, which is not in it."""

    def __init__(self, numbers, row):
        Denial.__init__(self, "leak", numbers, row)
        self.numbers, self.row = self.parts


def closed_lot(rows):
    """The Closed of the closed lot of rows, put in by the least triples."""
    need_lot(rows)
    found, reasons = closing(list(distinct_places(rows)))
    return Closed([Row(rows[0].marks, places) for places in found], reasons)


def leak_of(rows):
    """None if the lot is closed, otherwise the Leak of the least triple."""
    need_lot(rows)
    numbers = distinct_places(rows)
    told = list(numbers)
    triple = least_leak(told)
    if triple is None:
        return None
    i, j, k = triple
    row = Row(rows[0].marks, fourth_places(told[i], told[j], told[k]))
    return Leak([numbers[told[number]] for number in triple], row)
