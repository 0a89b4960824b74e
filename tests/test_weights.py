"""What follows from told fours, against greatest common divisors of minors."""

import itertools
import random
from math import gcd

from fourthlike.errors import BadTold, NoName
from fourthlike.told import Told, row_of
from fourthlike.weights import Breaks, Follows, Needed, Never, Times, fewest_told, follows, times_of
from tests.helpers import NO_NAMES, Case
from tests.test_told import NO_FOURS, NO_TOLDS, SIX, some_tolds

PLUS = Told(["x", "y", "z", "w"], [["y", "x", "x", "z"], ["x", "z", "z", "w"], ["z", "w", "w", "y"]])


def slow_row(told, four):
    """How often each unknown is first or fourth, less how often it is second or third."""
    row = [0] * len(told.names)
    for name, sign in zip(four, (1, -1, -1, 1)):
        row[told.names.index(name)] += sign
    return row


def slow_rows(told, numbers=None):
    """The rows of the told fours, or of those with these numbers."""
    return [slow_row(told, told.fours[number]) for number in (range(len(told)) if numbers is None else numbers)]


def determinant(rows):
    """The determinant, by the first row."""
    if not rows:
        return 1
    return sum((-1) ** at * rows[0][at] * determinant([row[:at] + row[at + 1:] for row in rows[1:]])
               for at in range(len(rows)) if rows[0][at])


def divisor(rows):
    """The rank of the rows and the greatest common divisor of their minors of this size."""
    many = len(rows[0]) if rows else 0
    for size in range(min(len(rows), many), 0, -1):
        found = 0
        for some in itertools.combinations(rows, size):
            for columns in itertools.combinations(range(many), size):
                found = gcd(found, determinant([[row[at] for at in columns] for row in some]))
                if found == 1:
                    return size, 1
        if found:
            return size, found
    return 0, 1


def slow_times(rows, row):
    """The least number from 1 on so many times which the rows make the row, None if there is none.

    Rows of one rank make lots one of which has the other one so many times as their minors' divisors tell.
    """
    before, behind = divisor(rows), divisor(rows + [row])
    return before[1] // behind[1] if before[0] == behind[0] else None


def makes(rows, weights, row):
    """Whether the rows, each times its weight, add up to the row."""
    if len(weights) != len(rows) or any(type(one) is not int for one in weights):
        return False
    return all(sum(weight * one[at] for weight, one in zip(weights, rows)) == wanted for at, wanted in enumerate(row))


def at_rests(row, rests):
    """What the row gives at these numbers."""
    return sum(one * rest for one, rest in zip(row, rests))


def is_slow_breaks(told, four, value):
    """Whether it is a right Breaks, by the words of the document."""
    if type(value) is not Breaks or type(value.by) is not int or value.by < 2 or type(value.rests) is not tuple:
        return False
    if len(value.rests) != len(told.names):
        return False
    if any(type(one) is not int or not 0 <= one < value.by for one in value.rests):
        return False
    if any(at_rests(row, value.rests) % value.by for row in slow_rows(told)):
        return False
    return at_rests(slow_row(told, four), value.rests) % value.by != 0


def is_slow_never(told, four, numbers):
    """Whether these are numbers of a right Never."""
    if type(numbers) is not tuple or len(numbers) != len(told.names) or any(type(one) is not int for one in numbers):
        return False
    return not any(at_rests(row, numbers) for row in slow_rows(told)) and at_rests(slow_row(told, four), numbers) != 0


def slow_needed(told, four):
    """The numbers of the fewest told fours from which the four follows, the least of these; None if it does not."""
    for many in range(len(told) + 1):
        for numbers in itertools.combinations(range(len(told)), many):
            if slow_times(slow_rows(told, numbers), slow_row(told, four)) == 1:
                return numbers
    return None


def asked_of(told, many, seed=1):
    """Some fours of the Told, its own ones, and what is chained of these."""
    chance = random.Random(seed)
    found = [tuple(chance.choices(told.names, k=4)) for _ in range(many)]
    for four in told.fours[:many]:
        a, b, c, d = four
        found.extend([four, (d, c, b, a), (b, a, c, d)])
    if len(told) > 1:
        found.append(told.fours[0][:2] + told.fours[1][2:])
    return found


class WeightsTest(Case):
    def looks_right(self, told, four):
        """Fails unless the answers about the four are right; returns its times."""
        rows, row = slow_rows(told), slow_row(told, four)
        number = slow_times(rows, row)
        found = follows(told, four)
        if number == 1:
            self.assertIs(type(found), Follows)
            self.assertTrue(makes(rows, found.weights, row))
        else:
            self.assertTrue(is_slow_breaks(told, four, found))
        times = times_of(told, list(four))
        if number is None:
            self.assertIs(type(times), Never)
            self.assertTrue(is_slow_never(told, four, times.numbers))
        else:
            self.assertIs(type(times), Times)
            self.same(times.number, number)
            self.assertTrue(makes(rows, times.weights, [number * one for one in row]))
        self.same(follows(told, list(four)), found)
        self.same(times_of(told, tuple(four)), times)
        return number

    def test_small_tolds(self):
        for told in some_tolds(150, (1, 4), (0, 4)):
            for four in asked_of(told, 8):
                self.looks_right(told, four)

    def test_big_tolds(self):
        seen = set()
        # In the last two something is left beside a corner below which nothing is left.
        texts = ("a b c d e f | b e f d , c f b c , d c b e",
                 "a b c d e f | e b d c , d b a f , b a a d , e f e f , e f f a")
        for told in some_tolds(40, (5, 6), (3, 6), 2) + [Told.read(text) for text in texts]:
            for four in asked_of(told, 3):
                seen.add(self.looks_right(told, four))
        self.assertTrue({1, 2, 3, None} <= seen)

    def test_all_fours_of_two_told_ones(self):
        for told in some_tolds(20, (3, 3), (2, 2), 3):
            for four in itertools.product(told.names, repeat=4):
                self.looks_right(told, four)

    def test_eight_fours_come_shortly(self):
        for told in some_tolds(40, (6, 6), (8, 8), 4):
            rows = slow_rows(told)
            for four in asked_of(told, 2):
                found = self.shortly(follows, told, four)
                row = slow_row(told, four)
                self.assertTrue(makes(rows, found.weights, row) if found else is_slow_breaks(told, four, found))
                times = self.shortly(times_of, told, four)
                self.assertEqual(bool(found), bool(times) and times.number == 1)
                needed = self.shortly(fewest_told, told, four)
                self.assertEqual(bool(needed), bool(found))

    def test_long_chains_have_big_weights(self):
        # 2a is b and c, 2b is c and d, and so on: what is far off comes by many times each four.
        names = ["a", "b", "c", "d", "e", "f"]
        told = Told(names, [(names[at], names[at + 1], names[(at + 2) % 6], names[at]) for at in range(5)])
        number = self.looks_right(told, ("a", "b", "b", "a"))
        self.assertGreater(number, 20)
        self.assertGreater(max(abs(one) for one in times_of(told, ("a", "b", "b", "b")).weights), 8)

    def test_nothing_told(self):
        told = Told(["x", "y", "z"], [])
        for four in itertools.product(told.names, repeat=4):
            a, b, c, d = four
            # Just a : b = a : b and a : a = b : b follow.
            self.assertEqual(self.looks_right(told, four) == 1, (a, b) == (c, d) or (a, c) == (b, d), four)
            self.assertEqual(slow_needed(told, four), () if (a, b) == (c, d) or (a, c) == (b, d) else None)
        self.same(follows(told, ("x", "x", "y", "y")).weights, ())

    def test_the_times_and_the_rests_are_two_things(self):
        four = ("x", "y", "y", "x")
        self.same(times_of(PLUS, four).number, 2)
        for rests in itertools.product(range(2), repeat=4):
            self.assertFalse(is_slow_breaks(PLUS, four, Breaks(rests, 2)))
        self.assertTrue(any(is_slow_breaks(PLUS, four, Breaks(rests, 4))
                            for rests in itertools.product(range(4), repeat=4)))

    def test_told_fours_with_equal_unknowns(self):
        told = Told(["a", "b"], [("a", "b", "b", "a")])
        self.same(self.looks_right(told, ("a", "b", "b", "b")), 2)
        self.same(self.looks_right(told, ("b", "a", "a", "b")), 1)
        one = Told(["a"], [("a", "a", "a", "a")] * 3)
        self.same(self.looks_right(one, ("a",) * 4), 1)
        self.same(len(follows(one, ("a",) * 4).weights), 3)

    def test_fewest_told(self):
        for told in some_tolds(60, (2, 5), (0, 5), 6) + [PLUS]:
            for four in asked_of(told, 5):
                wanted = slow_needed(told, four)
                found = fewest_told(told, four)
                if wanted is None:
                    self.assertTrue(is_slow_breaks(told, four, found))
                else:
                    self.assertIs(type(found), Needed)
                    self.same(found.numbers, wanted)
                    self.assertTrue(makes(slow_rows(told, wanted), found.weights, slow_row(told, four)))

    def test_fewest_of_several(self):
        told = Told(["a", "b", "c", "d"], [("a", "b", "b", "c"), ("b", "c", "c", "d"), ("a", "b", "c", "d"),
                                           ("c", "d", "a", "b"), ("a", "b", "c", "d")])
        self.same(fewest_told(told, ("c", "d", "a", "b")).parts, ((2,), (-1,)))
        self.same(fewest_told(told, ("a", "b", "a", "b")).parts, ((), ()))
        self.same(fewest_told(told, ("a", "b", "b", "c")).numbers, (0,))

    def test_errors(self):
        told = Told(["x", "y"], [])
        for call in (follows, times_of, fewest_told):
            for value in NO_TOLDS:
                self.raised(BadTold("told"), call, value, None)
            for four in NO_FOURS:
                self.raised(BadTold("four"), call, told, four)
            for value in NO_NAMES + ("z",):
                for at in range(4):
                    self.raised(NoName(value), call, told, ["x"] * at + [value] + ["?"] * (3 - at))

    def test_rows_are_those_of_the_document(self):
        for told in some_tolds(20):
            for four in asked_of(told, 3):
                self.same(row_of(told, four), tuple(slow_row(told, four)))
