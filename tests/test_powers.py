"""Numbers by a power."""

import random
from fractions import Fraction

from fourthlike.errors import BadNumber
from fourthlike.powers import NoWhole, Whole, fourth_by, is_by, sign_at
from tests.helpers import NO_NUMBERS, Case

TOP = 1000000


def real_sum(a, b, c, d, power):
    return sum(sign * Fraction(number) ** power for sign, number in ((1, a), (1, d), (-1, b), (-1, c)))


def sign_of(number):
    return (number > 0) - (number < 0)


class PowersTest(Case):
    def test_signs(self):
        chance = random.Random(1)
        for power in (-80, -79, -7, -2, -1, 0, 1, 2, 3, 20, 79, 80):
            for most in (4, 99, TOP):
                for _ in range(25):
                    four = [chance.randint(1, most) for _ in range(4)]
                    self.same(sign_at(*four, power), sign_of(real_sum(*four, power)))

    def test_signs_at_the_bounds(self):
        for power in (-80, -1, 1, 80):
            self.same(sign_at(1, TOP, TOP, TOP, power), -1 if power > 0 else 1)
            self.same(sign_at(TOP, 1, 1, 1, power), 1 if power > 0 else -1)
            self.same(sign_at(TOP, TOP - 1, TOP, TOP, power), 1 if power > 0 else -1)
            self.same(sign_at(TOP - 1, TOP, TOP, TOP - 1, power), -1 if power > 0 else 1)
            self.same(sign_at(TOP, TOP - 1, TOP - 1, TOP - 2, power), 0 if power == 1 else 1)
            self.same(sign_at(7, TOP, 7, TOP, power), 0)
        self.same(self.shortly(sign_at, TOP, TOP, 1, 1, 80), 0)
        for four in ((1, 1, 1, 1), (1, TOP, 3, 4), (TOP, TOP, 1, 7)):
            self.same(sign_at(*four, 0), 0)

    def test_by_a_power(self):
        for a in range(1, 13):
            for b in range(1, 13):
                for c in range(1, 13):
                    for d in range(1, 13):
                        for power in (-2, -1, 1, 2):
                            self.assertIs(is_by(a, b, c, d, power), real_sum(a, b, c, d, power) == 0)
                        self.assertIs(is_by(a, b, c, d, 0), a * d == b * c)

    def test_turned_exchanged_and_multiplied(self):
        for four, power in (((1, 5, 5, 7), 2), ((2, 3, 3, 6), -1), ((6, 4, 3, 2), 0), ((1, 2, 3, 4), 1)):
            a, b, c, d = four
            for other in ((c, d, a, b), (b, a, d, c), (a, c, b, d), [9 * one for one in four]):
                self.is_right(True, is_by, *other, power)
            self.is_right(False, is_by, a, b, d, c, power)
        self.is_right(True, is_by, 1, 25, 25, 49, 1)
        self.is_right(True, is_by, 17, 17, TOP, TOP, 80)
        self.is_right(True, is_by, TOP, 17, TOP, 17, -80)

    def test_fourths(self):
        chance = random.Random(2)
        found = set()
        for power in (-80, -13, -3, -2, -1, 0, 1, 2, 3, 13, 80):
            for _ in range(60):
                a, b, c = [chance.choice((chance.randint(1, 8), chance.randint(1, 99))) for _ in range(3)]
                paper = fourth_by(a, b, c, power)
                if type(paper) is Whole:
                    self.assertGreaterEqual(paper.number, 1)
                    self.is_right(True, is_by, a, b, c, paper.number, power)
                    found.add("whole")
                    continue
                self.assertIs(type(paper), NoWhole)
                wanted = Fraction(b) ** power + Fraction(c) ** power - Fraction(a) ** power
                if power == 0:
                    self.assertTrue(paper.low * a < b * c < (paper.low + 1) * a)
                elif paper.low is None:
                    self.assertLessEqual(wanted, 0)
                    found.add("none")
                elif power > 0:
                    self.assertTrue(paper.low ** power < wanted < (paper.low + 1) ** power)
                else:
                    self.assertLess(Fraction(paper.low + 1) ** power, wanted)
                    self.assertTrue(paper.low == 0 or wanted < Fraction(paper.low) ** power)
                    found.add("below 1" if paper.low == 0 else "between")
        self.assertEqual(found, {"whole", "none", "below 1", "between"})

    def test_every_whole_fourth_of_small_numbers(self):
        for power in (-2, -1, 0, 1, 2):
            for a in range(1, 8):
                for b in range(1, 8):
                    for c in range(1, 8):
                        wholes = [d for d in range(1, 500) if is_by(a, b, c, d, power)]
                        paper = fourth_by(a, b, c, power)
                        self.assertEqual([Whole(d) for d in wholes], [paper] if paper else [])

    def test_fourths_where_the_first_is_another_one(self):
        for power in range(-80, 81):
            self.same(fourth_by(98, 98, 97, power).number, 97)
            self.same(fourth_by(98, 97, 98, power).number, 97)
        self.same(fourth_by(99, 98, 97, 1).number, 96)
        self.same(fourth_by(1, 99, 99, 0).number, 9801)
        self.same(fourth_by(9, 4, 5, 1).low, None)
        self.same(fourth_by(8, 4, 5, 1).number, 1)
        self.same(fourth_by(10, 4, 5, 1).low, None)
        self.same(fourth_by(2, 2, 1, -1).number, 1)
        self.same(fourth_by(3, 1, 2, -1).low, 0)
        self.same(fourth_by(49, 98, 98, -1).low, None)
        self.same(fourth_by(1, 2, 3, -1).low, None)
        self.same(fourth_by(99, 1, 1, 0).low, 0)
        self.same(fourth_by(50, 99, 99, -1).number, 4950)
        self.same(fourth_by(50, 99, 98, -1).low, 3277)

    def test_the_greatest_fourths(self):
        most = 0
        for a in range(1, 100):
            for b in range(a, 100):
                c = a * b // (b - a) if b > a else a
                for near in (c - 1, c, c + 1):
                    if 1 <= near <= 99:
                        paper = fourth_by(a, b, near, -1)
                        most = max(most, paper.number or 0 if paper else paper.low or 0)
                        rest = Fraction(1, b) + Fraction(1, near) - Fraction(1, a)
                        if rest > 0 and rest.numerator == 1:
                            self.same(paper.number, rest.denominator)
                        elif rest > 0:
                            self.same(paper.low, rest.denominator // rest.numerator)
                        else:
                            self.same(paper.low, None)
        self.assertTrue(9801 < most <= TOP)

    def test_what_is_no_number(self):
        for call, names, most in ((sign_at, "abcd", TOP), (is_by, "abcd", TOP), (fourth_by, "abc", 99)):
            good = [most] * len(names)
            for at, name in enumerate(names):
                for bad in NO_NUMBERS + (0, -1, most + 1, 10 ** 40, "a"):
                    self.raised(BadNumber(name), call, *good[:at], *([bad] * (len(names) - at)), 99)
                    self.raised(BadNumber(name), call, *good[:at], bad, *good[at + 1:], 0)
            for bad in NO_NUMBERS + (-81, 81, 10 ** 40, "a"):
                self.raised(BadNumber("power"), call, *good, bad)
            for power in (-80, 80):
                call(*good, power)
                call(*([1] * len(names)), power)

    def test_short_answers(self):
        for power in (-80, 80):
            self.shortly(lambda: [fourth_by(99, b, 98, power) for b in range(1, 100)])
