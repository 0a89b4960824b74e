"""The fewest rows that make a lot."""

import itertools
import random

from fourthlike.errors import BadRow, Misfit, TooMany
from fourthlike.lots import closed_lot
from fourthlike.makers import Makers, fewest_makers
from fourthlike.rows import Row
from tests.helpers import NO_LISTS, Case
from tests.test_lots import every_row


def slow_makers(rows):
    """The first of the fewest rows that make the closed lot, by trying all."""
    lot = sorted(row.places for row in closed_lot(rows).rows)
    for size in range(1, len(lot) + 1):
        for some in sorted(itertools.combinations(lot, size)):
            if len(closed_lot([Row(rows[0].marks, one) for one in some]).rows) == len(lot):
                return list(some)
    return None


class MakersTest(Case):
    def test_the_first_of_the_fewest(self):
        chance = random.Random(5)
        for marks, places in ((2, 1), (2, 2), (2, 3), (3, 2), (4, 2), (3, 1), (4, 1), (2, 4)):
            rows = every_row(marks, places)
            for _ in range(12):
                told = [chance.choice(rows) for _ in range(chance.randint(1, 4))]
                if len(closed_lot(told).rows) > 8:
                    self.raised(TooMany("rows", 8), fewest_makers, told)
                    continue
                found = fewest_makers(told)
                self.assertEqual([row.places for row in found.rows], slow_makers(told))
                self.assertEqual(found, Makers(found.rows, closed_lot(found.rows)))

    def test_one_row(self):
        row = Row(4, [3, 2])
        self.assertEqual(fewest_makers([row, row]), Makers([row], closed_lot([row])))

    def test_eight_rows_and_more(self):
        self.assertEqual(len(self.shortly(fewest_makers, every_row(2, 3)).closed.rows), 8)
        eight = [Row(4, [one, other]) for one in (0, 1) for other in range(4)]
        self.assertEqual(len(self.shortly(fewest_makers, eight).closed.rows), 8)
        self.raised(TooMany("rows", 8), fewest_makers, every_row(3, 2))
        self.raised(TooMany("rows", 8), fewest_makers, every_row(3, 2)[:8])
        self.raised(TooMany("rows", 8), fewest_makers, every_row(3, 3))

    def test_errors_in_their_order(self):
        row = Row(2, [0] * 5)
        for rows in NO_LISTS + ([], (), [row, None], [Row(2, [0]), 1]):
            self.raised(BadRow("rows"), fewest_makers, rows)
        self.raised(Misfit("marks"), fewest_makers, [row, Row(2, [0]), Row(3, [0])])
        self.raised(Misfit("places"), fewest_makers, [row, Row(2, [0])])
        self.raised(TooMany("all", 27), fewest_makers, every_row(2, 5))
