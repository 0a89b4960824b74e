"""Closed lots of rows, and leaks."""

import itertools
import random

from fourthlike.errors import BadRow, Misfit, TooMany
from fourthlike.likenesses import Fourth, fourth_of
from fourthlike.lots import Closed, Leak, closed_lot, leak_of
from fourthlike.rows import Row
from tests.helpers import NO_LISTS, Case


def every_row(marks, places):
    return [Row(marks, row) for row in itertools.product(range(marks), repeat=places)]


def slow_leak(rows):
    """The least triple of numbers whose fourth is not among the rows, with the fourth."""
    for triple in itertools.product(range(len(rows)), repeat=3):
        found = fourth_of(*[rows[number] for number in triple])
        if type(found) is Fourth and found.row not in rows:
            return triple, found.row
    return None


def slow_closing(rows):
    """The closed lot by the words of the document, with its reasons."""
    found = []
    for row in rows:
        if row not in found:
            found.append(row)
    reasons = [None] * len(found)
    leak = slow_leak(found)
    while leak is not None:
        reasons.append(leak[0])
        found.append(leak[1])
        leak = slow_leak(found)
    return found, reasons


class LotsTest(Case):
    def some_lots(self, marks, places, many):
        chance = random.Random(marks * 10 + places)
        rows = every_row(marks, places)
        return [[chance.choice(rows) for _ in range(chance.randint(1, 6))] for _ in range(many)]

    def test_closed_lots(self):
        for marks, places, many in ((2, 1, 10), (2, 2, 30), (2, 3, 30), (2, 4, 12), (3, 2, 30), (4, 2, 12), (3, 3, 6)):
            for rows in self.some_lots(marks, places, many):
                wanted, reasons = slow_closing(rows)
                found = closed_lot(rows)
                self.assertEqual(found, Closed(wanted, reasons))
                self.same(found.reasons, tuple(reasons))
                self.assertEqual(closed_lot(tuple(rows)), found)
                self.assertTrue(all(isinstance(row, Row) for row in found.rows))
                self.assertIsNone(leak_of(found.rows))

    def test_leaks(self):
        for marks, places, many in ((2, 1, 10), (2, 2, 60), (2, 3, 60), (3, 2, 60), (4, 2, 30), (3, 3, 30)):
            for rows in self.some_lots(marks, places, many):
                leak = slow_leak(rows)
                if leak is None:
                    self.assertIsNone(leak_of(rows))
                else:
                    self.assertEqual(leak_of(rows), Leak(*leak))
                    self.same(leak_of(rows).numbers, leak[0])

    def test_one_and_two_rows(self):
        for marks in (2, 3):
            for one, other in itertools.product(every_row(marks, 2), repeat=2):
                self.assertEqual(closed_lot([one]), Closed([one], [None]))
                rows = [one] if one == other else [one, other]
                self.assertEqual(closed_lot([one, other, one]), Closed(rows, [None] * len(rows)))
                self.assertIsNone(leak_of([one, other]))

    def test_equal_rows_told_twice(self):
        rows = [Row(2, row) for row in ([0, 0], [0, 0], [0, 1], [0, 0], [1, 0], [0, 1])]
        self.assertEqual(closed_lot(rows), Closed([rows[0], rows[2], rows[4], Row(2, [1, 1])],
                                                  [None, None, None, (0, 1, 2)]))
        self.assertEqual(leak_of(rows), Leak((0, 2, 4), Row(2, [1, 1])))

    def test_closed_ones_of_the_facts(self):
        for marks in (2, 3):
            told = [row for row in every_row(marks, 3) if row.places[0] < marks - 1 and row.places[2] > 0]
            self.assertIsNone(leak_of(told))
            self.assertIsNone(leak_of([row for row in every_row(marks, 3) if row.places[0] == row.places[2]]))
        rows = every_row(2, 3)
        for row in rows:
            self.assertIsNotNone(leak_of([one for one in rows if one != row]))

    def test_rows_in_all(self):
        self.assertEqual(len(self.shortly(closed_lot, every_row(3, 3)).rows), 27)
        self.assertIsNone(self.shortly(leak_of, every_row(3, 3)))
        self.assertIsNone(self.shortly(leak_of, every_row(3, 3) * 100))
        self.assertEqual(len(self.shortly(closed_lot, [Row(3, row) for row in (
            [0, 0, 0], [1, 0, 0], [2, 0, 0], [0, 1, 0], [0, 2, 0], [0, 0, 1], [0, 0, 2])]).rows), 27)
        for marks, places in ((2, 4), (4, 2), (3, 3), (2, 1)):
            self.assertEqual(closed_lot([Row(marks, [0] * places)]).reasons, (None,))
            self.assertIsNone(leak_of([Row(marks, [0] * places)]))
        for marks, places in ((2, 5), (2, 6), (3, 4), (4, 3), (4, 6)):
            self.raised(TooMany("all", 27), closed_lot, [Row(marks, [0] * places)])
            self.raised(TooMany("all", 27), leak_of, [Row(marks, [0] * places)])

    def test_wrong_lots(self):
        row = Row(2, [0] * 6)
        for call in (closed_lot, leak_of):
            for rows in NO_LISTS + ([], (), "", "ab", row, [None], [row, None], [row, (0, 1)], [[row]], {0: row}):
                self.raised(BadRow("rows"), call, rows)
            self.raised(BadRow("rows"), call, [row, Row(3, [0]), None])
            self.raised(Misfit("marks"), call, [row, Row(2, [0]), Row(3, [0])])
            self.raised(Misfit("places"), call, [row, row, Row(2, [0])])

    def test_nothing_of_the_lot_is_changed(self):
        rows = [Row(2, [0, 0]), Row(2, [0, 1]), Row(2, [1, 0])]
        closed_lot(rows)
        leak_of(rows)
        self.assertEqual(rows, [Row(2, [0, 0]), Row(2, [0, 1]), Row(2, [1, 0])])
