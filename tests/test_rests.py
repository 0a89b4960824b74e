"""Rests with which told fours hold, and unknowns that are the same."""

import itertools
import random

from fourthlike.errors import BadNumber, BadTold, NoName
from fourthlike.rests import AllUnlike, Same, keeps, many_rests, parted
from fourthlike.told import Told
from tests.helpers import NO_LISTS, NO_NAMES, NO_NUMBERS, Case
from tests.test_told import NO_TOLDS, some_tolds
from tests.test_weights import PLUS, is_slow_breaks, makes, slow_row, slow_rows, slow_times

NO_PAIRS = NO_LISTS + ("", "xy", ["x"], [["x"]], [["x", "y", "x"]], ["xy"], [["x", "y"], "xy"], [["x", "y"], None],
                       [["x", "y"], {"x": 1, "y": 2}], {("x", "y"): 1}, [()])


def slow_keeps(told, rests, by):
    """Whether in each told four a and d have the sum, as rests, that b and c have."""
    at = dict(zip(told.names, rests))
    return all((at[a] + at[d]) % by == (at[b] + at[c]) % by for a, b, c, d in told.fours)


class RestsTest(Case):
    def test_all_rests_of_small_tolds(self):
        for told in some_tolds(50, (1, 3), (0, 4)) + [PLUS]:
            for by in (2, 3, 4) if len(told.names) > 3 else (2, 3, 4, 5, 6):
                many = 0
                for rests in itertools.product(range(by), repeat=len(told.names)):
                    wanted = slow_keeps(told, rests, by)
                    self.is_right(wanted, keeps, told, rests, by)
                    many += wanted
                self.is_right(slow_keeps(told, rests, by), keeps, told, list(rests), by)
                self.same(many_rests(told, by), many)

    def test_counts_of_big_tolds(self):
        for told in some_tolds(12, (5, 6), (0, 8), 2):
            for by in (2, 3):
                many = sum(slow_keeps(told, rests, by)
                           for rests in itertools.product(range(by), repeat=len(told.names)))
                self.same(self.shortly(many_rests, told, by), many)
        free = Told(["a", "b", "c", "d", "e", "f"], [])
        for by in (2, 59, 60):
            self.same(many_rests(free, by), by ** 6)
        # Counts of rests by two numbers without a common divisor are multiplied.
        for told in some_tolds(30, (1, 6), (0, 8), 3):
            for one, other in ((4, 15), (3, 20), (7, 8), (5, 12)):
                self.same(many_rests(told, one * other), many_rests(told, one) * many_rests(told, other))

    def test_big_rests(self):
        by = 10 ** 40
        told = Told(["a", "b", "c"], [("a", "b", "b", "c")])
        self.is_right(True, keeps, told, (by - 1, 0, 1), by)
        self.is_right(False, keeps, told, (by - 1, 0, 2), by)

    def test_wrong_numbers(self):
        for value in NO_TOLDS:
            self.raised(BadTold("told"), keeps, value, None, None)
            self.raised(BadTold("told"), many_rests, value, None)
        for by in (1, 0, -2) + NO_NUMBERS:
            self.raised(BadNumber("by"), keeps, PLUS, None, by)
            self.raised(BadNumber("by"), keeps, PLUS, (0, 0, 0, 0), by)
        for by in (1, 0, -2, 61, 10 ** 30) + NO_NUMBERS:
            self.raised(BadNumber("by"), many_rests, PLUS, by)
        for rests in NO_LISTS + ("", "0000", [], (0, 0, 0), (0,) * 5, (0, 0, 0, 3), (0, 0, -1, 0), (0, 0, True, 0),
                                 (0, 0, 1.0, 0), (0, 0, None, 0), ("0", 0, 0, 0), ((0,), 0, 0, 0)):
            self.raised(BadNumber("rests"), keeps, PLUS, rests, 3)


class PartedTest(Case):
    def test_pairs(self):
        chance = random.Random(7)
        for told in some_tolds(120, (1, 5), (0, 5), 4):
            rows = slow_rows(told)
            for many in (0, 1, 2, 5):
                pairs = [tuple(chance.choices(told.names, k=2)) for _ in range(many)]
                found = parted(told, [list(pair) for pair in pairs])
                same = [(one, other) for one, other in pairs
                        if slow_times(rows, slow_row(told, (one, other, other, other))) == 1]
                if same:
                    self.assertIs(type(found), Same)
                    self.same((found.one, found.other), same[0])
                    one, other = same[0]
                    self.assertTrue(makes(rows, found.weights, slow_row(told, (one, other, other, other))))
                else:
                    self.assertIs(type(found), AllUnlike)
                    self.assertEqual(len(found.papers), len(pairs))
                    for (one, other), paper in zip(pairs, found.papers):
                        self.assertTrue(is_slow_breaks(told, (one, other, other, other), paper))
                self.same(parted(told, tuple(pairs)), found)

    def test_equal_ones_are_the_same(self):
        told = Told(["x", "y"], [("x", "y", "y", "x")])
        self.same(parted(told, [("x", "y"), ("y", "y"), ("x", "x")]).parts, ("y", "y", (0,)))
        self.same(parted(told, []).parts, ((),))
        self.same(parted(Told(["x"], []), [["x", "x"]]).parts, ("x", "x", ()))

    def test_wrong_pairs(self):
        for value in NO_TOLDS:
            self.raised(BadTold("told"), parted, value, None)
        for pairs in NO_PAIRS:
            self.raised(BadTold("pairs"), parted, PLUS, pairs)
        for value in NO_NAMES + ("q",):
            self.raised(NoName(value), parted, PLUS, [["x", "y"], ["x", value], ["?", "?"]])
            self.raised(NoName(value), parted, PLUS, [["x", "x"], [value, "?"]])
