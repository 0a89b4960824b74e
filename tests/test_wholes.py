"""Rows of whole numbers brought to a diagonal."""

import itertools
import random

from fourthlike.sublots import lots_below
from fourthlike.wholes import Diagonal, images_of, weights_making
from tests.helpers import Case
from tests.test_weights import determinant, divisor, makes, slow_times


def some_rows(many, least, most, seed=1):
    """Lists of rows of whole numbers from least to most, of up to six rows and up to five columns."""
    chance = random.Random(seed)
    found = []
    for _ in range(many):
        columns = chance.randint(1, 5)
        rows = [[chance.randint(least, most) for _ in range(columns)] for _ in range(chance.randint(0, 6))]
        if len(rows) > 2 and chance.random() < 0.5:
            rows[-1] = [one - 2 * other for one, other in zip(rows[0], rows[1])]
        found.append((rows, columns))
    return found


class WholesTest(Case):
    def test_diagonals(self):
        for rows, columns in some_rows(300, -9, 9) + some_rows(60, -1, 1, 2) + some_rows(60, 0, 40, 3):
            diagonal = Diagonal(rows, columns)
            self.assertEqual([len(diagonal.numbers), len(diagonal.columns)], [columns, columns])
            for at, maker in enumerate(diagonal.makers):
                made = [sum(weight * row[one] for weight, row in zip(maker, rows)) for one in range(columns)]
                wanted = [diagonal.numbers[at] if one == at else 0 for one in range(columns)]
                self.assertEqual(images_of(diagonal, made), wanted)
            # The steps can be taken back, so all rows of whole numbers come of the columns.
            self.assertEqual(abs(determinant(diagonal.columns)), 1)
            product = 1
            for number in diagonal.numbers:
                product = product * (abs(number) or 1)
            self.assertEqual((sum(number != 0 for number in diagonal.numbers), product), divisor(rows))

    def test_weights(self):
        chance = random.Random(4)
        found = 0
        for rows, columns in some_rows(200, -6, 6, 5) + some_rows(100, -2, 2, 6):
            diagonal = Diagonal(rows, columns)
            weights = [chance.randint(-3, 3) for _ in rows]
            for row in ([sum(weight * row[at] for weight, row in zip(weights, rows)) for at in range(columns)],
                        [chance.randint(-3, 3) for _ in range(columns)], [0] * columns):
                made = weights_making(diagonal, len(rows), row)
                self.assertEqual(made is not None, slow_times(rows, row) == 1)
                if made is not None:
                    self.assertTrue(makes(rows, made, row))
                    found += 1
        self.assertGreater(found, 600)

    def test_lots(self):
        for many in range(6):
            for least, most in itertools.product(range(3), range(many + 1)):
                wanted = [some for size in range(least, most + 1)
                          for some in itertools.combinations(range(many), size)]
                self.same(lots_below(many, least, most), wanted)
