"""The power of four growing integers."""

import random

from fourthlike.between import Between, ByPower, power_of
from fourthlike.errors import BadNumber
from fourthlike.powers import is_by
from tests.helpers import NO_NUMBERS, Case
from tests.test_powers import real_sum, sign_of


class BetweenTest(Case):
    def look_at(self, four):
        """Fails unless the power of the four is told rightly, by the sums around it."""
        a, b, c, d = four
        found = power_of(*four)
        if type(found) is ByPower:
            self.is_right(True, is_by, *four, found.power)
            self.assertTrue(found.power != 0 or a * d == b * c)
            return found.power
        self.assertIs(type(found), Between)
        low, high = found.low, found.low + 1
        signs = sign_of(real_sum(*four, low)), sign_of(real_sum(*four, high))
        if a * d < b * c:
            self.assertGreaterEqual(low, 0)
            self.assertEqual(signs, (0 if low == 0 else -1, 1))
        else:
            self.assertGreater(a * d, b * c)
            self.assertLessEqual(high, 0)
            self.assertEqual(signs, (1, 0 if high == 0 else -1))
        return low

    def test_small_fours(self):
        found = {self.look_at((a, b, c, d)) for a in range(1, 13) for b in range(a + 1, 13) for c in range(b, 13)
                 for d in range(c + 1, 13)}
        self.assertTrue({-2, -1, 0, 1, 2} <= found)

    def test_fours_to_the_bounds(self):
        chance = random.Random(3)
        for _ in range(400):
            a = chance.randint(1, 97)
            b = chance.randint(a + 1, 98)
            c = chance.randint(b, 98)
            self.look_at((a, b, c, chance.randint(c + 1, 99)))
        found = {self.look_at(four) for four in ((97, 98, 98, 99), (1, 98, 98, 99), (1, 2, 2, 99), (1, 2, 98, 99),
                                                 (1, 97, 98, 99), (96, 97, 98, 99), (50, 51, 51, 99), (1, 50, 98, 99))}
        self.assertEqual(max(found), 68)
        lowest = min(self.look_at((a, a + 1, c, 99)) for a in range(1, 97) for c in range(a + 1, 99))
        self.assertEqual(lowest, -64)

    def test_whole_powers(self):
        for four, power in (((1, 2, 2, 3), 1), ((2, 3, 4, 6), 0), ((2, 3, 3, 6), -1), ((3, 4, 5, 6), 1),
                            ((1, 5, 5, 7), 2),
                            ((1, 9, 11, 99), 0), ((7, 13, 13, 17), 2), ((10, 12, 12, 15), -1), ((1, 4, 7, 8), 2),
                            ((1, 9, 10, 12), 3), ((2, 3, 10, 15), 0), ((2, 9, 15, 16), 3)):
            self.same(power_of(*four).power, power)
        for times in range(1, 12):
            self.same(power_of(times, 5 * times, 5 * times, 7 * times).power, 2)
            self.same(power_of(2 * times, 3 * times, 3 * times, 6 * times).power, -1)
            self.same(power_of(times, 2 * times, 4 * times, 8 * times).power, 0)
            self.same(power_of(times, 2 * times, 3 * times, 5 * times).low, 0)
            self.same(power_of(times, 2 * times, 2 * times, 5 * times).low, -1)
        self.same(power_of(97, 98, 98, 99).power, 1)

    def test_powers_of_powers(self):
        for four in ((1, 2, 3, 4), (2, 3, 3, 4), (1, 4, 4, 7), (2, 4, 7, 9)):
            self.same(power_of(*four).power, 1)
            self.assertIs(type(power_of(*[number * number for number in four])), Between)
            self.same(power_of(*[number * number for number in four]).low, 0)
        self.same(power_of(1, 25, 25, 49).power, 1)
        self.same(power_of(4, 9, 9, 36).low, -1)

    def test_bounds_in_their_order(self):
        for bad in NO_NUMBERS + (0, -1, 100, "a", 10 ** 40):
            self.raised(BadNumber("a"), power_of, bad, bad, bad, bad)
            self.raised(BadNumber("b"), power_of, 1, bad, bad, bad)
            self.raised(BadNumber("c"), power_of, 1, 2, bad, bad)
            self.raised(BadNumber("d"), power_of, 1, 2, 2, bad)
        self.raised(BadNumber("b"), power_of, 5, 5, 4, 3)
        self.raised(BadNumber("b"), power_of, 99, 99, 99, 99)
        self.raised(BadNumber("c"), power_of, 5, 6, 5, 4)
        self.raised(BadNumber("d"), power_of, 5, 6, 6, 6)
        self.raised(BadNumber("d"), power_of, 5, 6, 99, 99)
        self.raised(BadNumber("c"), power_of, 1, 99, 98, 99)
        self.raised(BadNumber("d"), power_of, 1, 99, 99, 100)
        self.look_at((1, 2, 2, 3))

    def test_short_answers(self):
        self.shortly(lambda: [power_of(1, b, c, 99) for b in range(2, 99, 3) for c in range(b, 99, 3)])
