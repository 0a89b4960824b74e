"""Rows of numbers by one power."""

import itertools

from fourthlike.between import ByPower, power_of
from fourthlike.errors import BadNumber
from fourthlike.numberrows import Uneven, numbers_by, power_of_row
from fourthlike.powers import fourth_by, is_by
from tests.helpers import NO_LISTS, NO_NUMBERS, Case


class NumberRowsTest(Case):
    def test_going_on(self):
        self.same(numbers_by(1, 2, 12, 0), tuple(2 ** at for at in range(12)))
        self.same(numbers_by(1, 99, 12, 0), tuple(99 ** at for at in range(12)))
        self.same(numbers_by(1, 99, 12, 1), tuple(1 + 98 * at for at in range(12)))
        self.same(numbers_by(99, 90, 12, 1), (99, 90, 81, 72, 63, 54, 45, 36, 27, 18, 9))
        self.same(numbers_by(4, 6, 9, 0), (4, 6, 9))
        self.same(numbers_by(81, 54, 12, 0), (81, 54, 36, 24, 16))
        self.same(numbers_by(1, 5, 9, 2), (1, 5, 7))
        self.same(numbers_by(7, 5, 9, 2), (7, 5, 1))
        self.same(numbers_by(6, 3, 12, -1), (6, 3, 2))
        self.same(numbers_by(3, 4, 12, -1), (3, 4, 6, 12))
        self.same(numbers_by(12, 15, 12, -1), (12, 15, 20, 30, 60))
        self.same(numbers_by(60, 30, 4, -1), (60, 30, 20, 15))
        self.same(numbers_by(35, 7, 12, -2), (35, 7, 5))

    def test_equal_numbers_go_on_by_every_power(self):
        for power in (-80, -1, 0, 1, 80):
            self.same(numbers_by(98, 98, 12, power), (98,) * 12)

    def test_each_number_is_the_fourth(self):
        for first, second in itertools.product(range(1, 25), range(1, 25, 3)):
            for power in (-3, -2, -1, 0, 1, 2, 3):
                found = numbers_by(first, second, 12, power)
                self.assertEqual(found[:2], (first, second))
                for x, y, z in zip(found, found[1:], found[2:]):
                    if max(x, y, z) <= 1000000:
                        self.assertTrue(z >= 1 and is_by(x, y, y, z, power))
                if len(found) < 12 and max(found) <= 99:
                    self.assertFalse(fourth_by(found[-2], found[-1], found[-1], power))
                for many in (2, 3, 5):
                    self.same(numbers_by(first, second, many, power), found[:many])

    def test_bounds_in_their_order(self):
        for bad in NO_NUMBERS + (0, -1, 10 ** 40, "a"):
            self.raised(BadNumber("first"), numbers_by, bad, bad, bad, "a")
            self.raised(BadNumber("second"), numbers_by, 99, bad, bad, "a")
            self.raised(BadNumber("many"), numbers_by, 99, 99, bad, "a")
        self.raised(BadNumber("first"), numbers_by, 100, 1, 2, 0)
        self.raised(BadNumber("second"), numbers_by, 1, 100, 2, 0)
        for many in (1, 13):
            self.raised(BadNumber("many"), numbers_by, 1, 1, many, 0)
        for bad in NO_NUMBERS + (-81, 81, 10 ** 40, "a"):
            self.raised(BadNumber("power"), numbers_by, 1, 99, 2, bad)
        self.same(numbers_by(1, 99, 2, -80), (1, 99))
        self.same(numbers_by(99, 1, 2, 80), (99, 1))

    def test_the_power_of_a_row(self):
        for first, second in itertools.product(range(1, 30), range(2, 40)):
            for power in (-2, -1, 0, 1, 2):
                found = numbers_by(first, second, 12, power)
                if first < second and len(found) >= 3 and found[2] <= 99:
                    row = [number for number in found if number <= 99]
                    self.same(power_of_row(row).parts, (power,))
                    self.assertEqual(power_of_row(tuple(row)), ByPower(power))

    def test_every_short_row(self):
        for row in itertools.combinations(range(1, 15), 4):
            steps = [power_of(*numbers) for numbers in ((row[0], row[1], row[1], row[2]),
                                                        (row[1], row[2], row[2], row[3]))]
            wanted = Uneven(0) if not steps[0] else steps[0] if steps[0] == steps[1] else Uneven(1)
            self.assertEqual(power_of_row(row), wanted)

    def test_the_first_uneven_step(self):
        row = [2, 4, 6, 8, 10, 12, 14, 16, 18, 20, 22, 24]
        self.same(power_of_row(row).power, 1)
        for step in range(1, 10):
            self.same(power_of_row(row[:step + 2] + [number + 1 for number in row[step + 2:]]).step, step)
        self.same(power_of_row([2, 3, 7] + row[4:]).step, 0)

    def test_wrong_rows(self):
        for bad in NO_LISTS + ([], [1, 2], (1, 2), [1, 2, 2], [2, 2, 3], [3, 2, 1], [1, 2, 3, 3], [0, 1, 2],
                               [1, 2, 100],
                               [1, True, 3], [True, 2, 3], [1, 2, 3.0], [1, 2, None], ["1", "2", "3"], "123", "abc",
                               list(range(1, 14)), [1, 2, [3]], [-1, 1, 2], [1, 2, 10 ** 40], {1: 1, 2: 2, 3: 3}):
            self.raised(BadNumber("numbers"), power_of_row, bad)
        self.same(power_of_row(list(range(1, 13))).power, 1)
        self.same(power_of_row([97, 98, 99]).power, 1)

    def test_short_answers(self):
        self.shortly(lambda: [numbers_by(one, 99, 12, power) for one in (1, 98) for power in range(-80, 81)])
