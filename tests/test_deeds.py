"""What comes of told fours by deeds, against a slow closing."""

import itertools
import random

from fourthlike.deeds import Deeds, NoDeeds, by_deeds, closed_by_deeds
from fourthlike.errors import BadTold, NoName
from fourthlike.told import Told
from fourthlike.weights import follows
from tests.helpers import NO_NAMES, Case
from tests.test_told import NO_FOURS, NO_TOLDS, some_tolds

SUMS = Told(["a", "b", "c", "d", "e", "f"], [["a", "c", "d", "b"], ["c", "e", "f", "d"]])


def slow_same(told):
    """All fours a : b = a : b."""
    return {(a, b, a, b) for a, b in itertools.product(told.names, repeat=2)}


def slow_made(fours):
    """What the deeds make of these fours."""
    found = set()
    for a, b, c, d in fours:
        found |= {(c, d, a, b), (a, c, b, d)}
        found |= {(a, b, e, f) for x, y, e, f in fours if (x, y) == (c, d)}
    return found


def slow_closing(told):
    """The least closed lot, by the words of the document."""
    fours = set(told.fours) | slow_same(told)
    while not slow_made(fours) <= fours:
        fours |= slow_made(fours)
    return fours


def slow_gives(told, rows):
    """The four that each deed gives, None from the first on that is no deed."""
    fours = []
    for deed in rows:
        word, numbers = deed[0], deed[1:]
        if word == "told":
            fours.append(told.fours[numbers[0]])
        elif word == "same":
            fours.append(numbers + numbers)
        else:
            assert all(0 <= number < len(fours) for number in numbers)
            a, b, c, d = fours[numbers[0]]
            if word == "turned":
                fours.append((c, d, a, b))
            elif word == "middles":
                fours.append((a, c, b, d))
            else:
                assert word == "chained" and fours[numbers[1]][:2] == (c, d)
                fours.append((a, b) + fours[numbers[1]][2:])
    return fours


class DeedsTest(Case):
    def test_all_fours_of_small_tolds(self):
        for told in some_tolds(60, (1, 3), (0, 4)) + some_tolds(5, (4, 4), (0, 4), 2):
            closed = slow_closing(told)
            self.same(closed_by_deeds(told), tuple(sorted(closed)))
            for four in itertools.product(told.names, repeat=4):
                found = by_deeds(told, four)
                if four in closed:
                    self.assertIs(type(found), Deeds)
                    self.same(slow_gives(told, found.rows)[-1], four)
                    self.assertTrue(follows(told, four))
                else:
                    self.assertIs(type(found), NoDeeds)
                    self.same(found.fours, tuple(sorted(closed)))

    def test_big_tolds_come_shortly(self):
        chance = random.Random(3)
        for told in some_tolds(9, (6, 6), (2, 8), 5):
            closed = self.shortly(closed_by_deeds, told)
            self.assertTrue(set(told.fours) | slow_same(told) <= set(closed))
            for four in chance.choices(closed, k=3) + [tuple(chance.choices(told.names, k=4)) for _ in range(3)]:
                found = self.shortly(by_deeds, told, list(four))
                self.assertEqual(bool(found), four in closed)
                if found:
                    self.same(slow_gives(told, found.rows)[-1], four)
                    self.assertTrue(follows(told, four))
                self.same(by_deeds(told, four), found)

    def test_all_that_follows_can_come_by_deeds(self):
        names = ["a", "b", "c", "d", "e", "f"]
        told = Told(names, [("a", name, name, "a") for name in names] + [("a", "a", "a", name) for name in names[1:3]])
        self.assertEqual(len(closed_by_deeds(Told(names, [("a", "a", "a", name) for name in names]))), 6 ** 4)
        self.assertTrue(set(closed_by_deeds(told)) <= set(itertools.product(names, repeat=4)))

    def test_not_all_that_follows_comes_by_deeds(self):
        four = ("a", "e", "f", "b")
        self.assertTrue(follows(SUMS, four))
        self.assertFalse(by_deeds(SUMS, four))
        self.assertEqual(set(closed_by_deeds(SUMS)), slow_closing(SUMS))
        self.assertTrue(by_deeds(SUMS.with_four(["d", "b", "d", "b"]), ("d", "b", "a", "c")))

    def test_one_deed_is_enough(self):
        told = Told(["a", "b", "c"], [("a", "b", "b", "c")])
        self.same(by_deeds(told, ("a", "b", "b", "c")).rows, (("told", 0),))
        self.same(by_deeds(told, ("a", "c", "a", "c")).rows, (("same", "a", "c"),))
        self.same(by_deeds(told, ("b", "c", "a", "b")).rows, (("told", 0), ("turned", 0)))
        self.same(closed_by_deeds(Told(["a"], [])), (("a",) * 4,))

    def test_errors(self):
        for value in NO_TOLDS:
            self.raised(BadTold("told"), closed_by_deeds, value)
            self.raised(BadTold("told"), by_deeds, value, None)
        for four in NO_FOURS:
            self.raised(BadTold("four"), by_deeds, SUMS, four)
        for value in NO_NAMES + ("z",):
            for at in range(4):
                self.raised(NoName(value), by_deeds, SUMS, ["a"] * at + [value] + ["?"] * (3 - at))
