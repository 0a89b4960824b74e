"""Whether papers on powers are right."""

import itertools
from unittest.mock import ANY

from fourthlike.between import Between, ByPower, power_of
from fourthlike.check_numbers import shows_fourth_by, shows_power, shows_power_of_row
from fourthlike.errors import BadNumber
from fourthlike.numberrows import Uneven, power_of_row
from fourthlike.papers import Denial, Paper
from fourthlike.powers import NoWhole, Whole, fourth_by
from tests.helpers import NO_NUMBERS, Case

ODD_PARTS = NO_NUMBERS + ("a", (), [0], 10 ** 40, -10 ** 40, ANY, Whole(1), 1.5, "0", "1")
PAPERS = (Whole, NoWhole, ByPower, Between, Uneven)


class CheckNumbersTest(Case):
    def look_at(self, call, arguments, right):
        """Fails unless of all papers with small numbers and odd parts just the right one is right."""
        self.is_right(True, call, *arguments, right)
        for made in PAPERS:
            for part in list(range(-4, 12)) + [80, 81, -80, -81, right.parts[0]]:
                self.is_right(made(part) == right, call, *arguments, made(part))
            for part in ODD_PARTS:
                if part is not None:
                    self.is_right(False, call, *arguments, made(part))
            self.is_right(made(None) == right, call, *arguments, made(None))
        for value in NO_NUMBERS + (right.parts, right.parts[0], right.word, type(right),
                                   Paper(right.word, *right.parts),
                                   Denial(right.word, *right.parts)):
            self.is_right(False, call, *arguments, value)

    def test_fourths(self):
        for a, b, c in itertools.product((1, 2, 3, 5, 6, 99), (1, 2, 5), (1, 3, 5)):
            for power in (-80, -2, -1, 0, 1, 2, 80):
                self.look_at(shows_fourth_by, (a, b, c, power), fourth_by(a, b, c, power))

    def test_fourths_that_are_far(self):
        self.is_right(True, shows_fourth_by, 50, 99, 99, -1, Whole(4950))
        self.is_right(False, shows_fourth_by, 50, 99, 99, -1, NoWhole(4949))
        self.is_right(False, shows_fourth_by, 50, 99, 99, -1, NoWhole(4950))
        self.is_right(True, shows_fourth_by, 50, 99, 98, -1, NoWhole(3277))
        for low in (3276, 3278, 0, 10 ** 6, 10 ** 6 + 1, 10 ** 300):
            self.is_right(False, shows_fourth_by, 50, 99, 98, -1, NoWhole(low))

    def test_powers(self):
        for four in ((1, 2, 2, 3), (2, 3, 4, 6), (2, 3, 3, 6), (1, 5, 5, 7), (1, 2, 3, 5), (1, 2, 2, 5), (1, 4, 5, 6),
                     (97, 98, 98, 99), (1, 98, 98, 99), (1, 2, 2, 99), (1, 9, 10, 12), (10, 12, 12, 15)):
            self.look_at(shows_power, four, power_of(*four))

    def test_every_power_of_small_fours(self):
        for a, b, d in itertools.combinations(range(1, 11), 3):
            for c in range(b, d):
                for power in range(-6, 8):
                    right = power_of(a, b, c, d)
                    self.is_right(right == ByPower(power), shows_power, a, b, c, d, ByPower(power))
                    self.is_right(right == Between(power), shows_power, a, b, c, d, Between(power))

    def test_powers_at_the_greatest_and_least(self):
        four = (1, 98, 98, 99)
        low = power_of(*four).low
        self.assertEqual(low, 68)
        for wrong in (67, 69, 79, 80, -80, -81, -1, 0):
            self.is_right(False, shows_power, *four, Between(wrong))
        self.is_right(False, shows_power, *four, ByPower(68))
        self.is_right(False, shows_power, *four, ByPower(81))

    def test_rows(self):
        for row in ([1, 3, 9, 27], [1, 2, 3, 5], [2, 3, 7], [2, 3, 6], [1, 2, 3], list(range(1, 13)), [1, 5, 7, 9]):
            self.look_at(shows_power_of_row, (row,), power_of_row(row))

    def test_errors_of_the_other_arguments(self):
        for value in (None, Whole(1), ByPower(1), Uneven(0)):
            for bad in NO_NUMBERS + (0, 100):
                self.raised(BadNumber("a"), shows_fourth_by, bad, bad, bad, 99, value)
                self.raised(BadNumber("b"), shows_fourth_by, 1, bad, bad, 99, value)
                self.raised(BadNumber("c"), shows_fourth_by, 1, 1, bad, 99, value)
                self.raised(BadNumber("a"), shows_power, bad, bad, bad, bad, value)
                self.raised(BadNumber("b"), shows_power, 1, bad, bad, bad, value)
                self.raised(BadNumber("c"), shows_power, 1, 2, bad, bad, value)
                self.raised(BadNumber("d"), shows_power, 1, 2, 2, bad, value)
                self.raised(BadNumber("numbers"), shows_power_of_row, bad, value)
            for bad in NO_NUMBERS + (-81, 81):
                self.raised(BadNumber("power"), shows_fourth_by, 1, 1, 1, bad, value)
            self.raised(BadNumber("d"), shows_power, 1, 2, 3, 3, value)
            self.raised(BadNumber("numbers"), shows_power_of_row, [1, 2, 2], value)
