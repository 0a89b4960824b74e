"""Whether papers on what follows are right."""

import itertools
import random
from unittest.mock import ANY

from fourthlike.check_unknowns import shows_deeds, shows_follows, shows_needed, shows_parted, shows_times
from fourthlike.deeds import Deeds, NoDeeds, by_deeds
from fourthlike.errors import BadTold, NoName
from fourthlike.papers import Denial, Paper
from fourthlike.rests import AllUnlike, Same, parted
from fourthlike.told import Told
from fourthlike.weights import Breaks, Follows, Needed, Never, Times, fewest_told, follows, times_of
from tests.helpers import NO_NAMES, ODD_VALUES, Case, bent_papers
from tests.test_deeds import SUMS, slow_closing, slow_made, slow_same
from tests.test_rests import NO_PAIRS
from tests.test_told import NO_FOURS, NO_TOLDS, some_tolds
from tests.test_weights import (
    PLUS, asked_of, is_slow_breaks, is_slow_never, makes, slow_needed, slow_row, slow_rows, slow_times)

NO_PAPERS = ODD_VALUES + (0, "", "follows", (), [], ANY, Follows, Breaks, Times, Never, Needed, AllUnlike, Same, Deeds,
                          NoDeeds, Paper("follows", ()), Paper("times", 1, ()), Denial("breaks", (0, 1), 2),
                          Denial("never", (0, 1)), Paper("needed", (), ()), Paper("deeds", (("told", 0),)),
                          Denial("nodeeds", ()), Paper("allunlike", ()), Denial("same", "x", "x", ()))
BENDS = (None, True, False, -1, 0, 1, 2, 7, 1.0, "", "a", "x", b"a", ANY, (), (0,), (1, 0), ("same", "a", "b"), {})


def are_ints(values, many):
    return type(values) is tuple and len(values) == many and all(type(one) is int for one in values)


def is_right_follows(told, four, value):
    """Whether it is a right Follows or Breaks."""
    if type(value) is Follows:
        return are_ints(value.weights, len(told)) and makes(slow_rows(told), value.weights, slow_row(told, four))
    return is_slow_breaks(told, four, value)


def is_right_times(told, four, value):
    """Whether it is a right Times or Never."""
    if type(value) is Never:
        return is_slow_never(told, four, value.numbers)
    if type(value) is not Times or type(value.number) is not int or not are_ints(value.weights, len(told)):
        return False
    row = slow_row(told, four)
    if slow_times(slow_rows(told), row) != value.number:
        return False
    return makes(slow_rows(told), value.weights, [value.number * one for one in row])


def is_right_needed(told, four, value):
    """Whether it is a right Needed or Breaks."""
    if type(value) is not Needed:
        return is_slow_breaks(told, four, value)
    if type(value.numbers) is not tuple or not are_ints(value.numbers, len(value.numbers)):
        return False
    if list(value.numbers) != sorted(set(value.numbers)) or not set(value.numbers) <= set(range(len(told))):
        return False
    if not are_ints(value.weights, len(value.numbers)):
        return False
    if not makes(slow_rows(told, value.numbers), value.weights, slow_row(told, four)):
        return False
    return len(value.numbers) == len(slow_needed(told, four))


def is_right_deeds(told, four, rows):
    """Whether these are deeds that give the four, looked up one by one."""
    if type(rows) is not tuple or not rows:
        return False
    fours = []
    for deed in rows:
        right = {("told", number): told.fours[number] for number in range(len(told))}
        right.update({("same",) + one[:2]: one for one in slow_same(told)})
        for at, (a, b, c, d) in enumerate(fours):
            right["turned", at] = (c, d, a, b)
            right["middles", at] = (a, c, b, d)
            right.update({("chained", at, behind): (a, b) + other[2:]
                          for behind, other in enumerate(fours) if other[:2] == (c, d)})
        found = [right[key] for key in right if type(deed) is tuple and repr(key) == repr(deed)]
        if not found:
            return False
        fours.append(found[0])
    return fours[-1] == tuple(four)


def is_right_no_deeds(told, four, fours):
    """Whether this is a closed lot without the four, ascending."""
    every = list(itertools.product(sorted(told.names), repeat=4))
    if type(fours) is not tuple or repr(fours) != repr(tuple(one for one in every if one in fours)):
        return False
    return tuple(four) not in fours and (set(told.fours) | slow_same(told) | slow_made(fours)) <= set(fours)


class CheckUnknownsTest(Case):
    def looks_at_bent(self, shows, told, asked, paper, is_right):
        """Fails unless the paper is right, and papers bent from it are just if they should be."""
        self.is_right(True, shows, told, asked, paper)
        for bent in bent_papers(paper, BENDS):
            self.is_right(is_right(told, asked, bent), shows, told, asked, bent)

    def test_bent_papers(self):
        for told in some_tolds(14, (1, 3), (0, 3)) + [PLUS]:
            for four in asked_of(told, 2):
                self.looks_at_bent(shows_follows, told, four, follows(told, four), is_right_follows)
                self.looks_at_bent(shows_times, told, list(four), times_of(told, four), is_right_times)
                self.looks_at_bent(shows_needed, told, four, fewest_told(told, four), is_right_needed)

    def test_all_weights_and_rests(self):
        for told in some_tolds(12, (2, 3), (1, 2), 5):
            for four in asked_of(told, 3):
                for weights in itertools.product(range(-3, 4), repeat=len(told)):
                    paper = Follows(list(weights))
                    self.is_right(is_right_follows(told, four, paper), shows_follows, told, four, paper)
                    for number in (-1, 0, 1, 2, 3):
                        paper = Times(number, weights)
                        self.is_right(is_right_times(told, four, paper), shows_times, told, four, paper)
                for by in (1, 2, 3, 4):
                    for rests in itertools.product(range(by), repeat=len(told.names)):
                        paper = Breaks(rests, by)
                        self.is_right(is_slow_breaks(told, four, paper), shows_follows, told, four, paper)
                for numbers in itertools.product(range(-2, 3), repeat=len(told.names)):
                    paper = Never(numbers)
                    self.is_right(is_right_times(told, four, paper), shows_times, told, four, paper)

    def test_times_that_are_not_the_least(self):
        four = ("x", "y", "y", "x")
        self.is_right(True, shows_times, PLUS, four, Times(2, [-3, -2, -1]))
        for number in (-2, 0, 4, 6):
            weights = [number // 2 * one for one in (-3, -2, -1)]
            self.is_right(False, shows_times, PLUS, four, Times(number, weights))
        self.is_right(False, shows_times, PLUS, ("x", "x", "x", "x"), Times(0, (0, 0, 0)))
        self.is_right(False, shows_times, PLUS, ("x", "x", "x", "x"), Times(True, (0, 0, 0)))
        self.is_right(True, shows_times, PLUS, ("x", "x", "x", "x"), Times(1, (0, 0, 0)))
        free = Told(["x", "y"], [])
        self.is_right(False, shows_times, free, ("x", "y", "y", "y"), Times(1, ()))
        self.is_right(True, shows_times, free, ("x", "y", "y", "y"), Never((10 ** 50, -3)))
        self.is_right(False, shows_times, free, ("x", "y", "y", "y"), Times(None, ()))

    def test_all_lots_of_told_fours(self):
        told = Told(["a", "b", "c", "d"], [("a", "b", "b", "c"), ("b", "c", "c", "d"), ("a", "b", "c", "d"),
                                           ("c", "d", "a", "b"), ("b", "a", "d", "c")])
        for four in asked_of(told, 3) + [("a", "b", "a", "b")]:
            for many in range(len(told) + 1):
                for numbers in itertools.combinations(range(len(told)), many):
                    for weights in itertools.product((-1, 0, 1), repeat=many):
                        paper = Needed(numbers, weights)
                        self.is_right(is_right_needed(told, four, paper), shows_needed, told, four, paper)

    def test_big_tolds_come_shortly(self):
        for told in some_tolds(8, (6, 6), (8, 8), 6):
            for four in asked_of(told, 1):
                for shows, call in ((shows_follows, follows), (shows_times, times_of), (shows_needed, fewest_told),
                                    (shows_deeds, by_deeds)):
                    self.is_right(True, self.shortly, shows, told, four, call(told, four))

    def test_other_values(self):
        for value in NO_PAPERS:
            for shows in (shows_follows, shows_times, shows_needed, shows_deeds):
                self.is_right(False, shows, PLUS, ("x", "x", "x", "x"), value)
            self.is_right(False, shows_parted, PLUS, [], value)
        four = ("x", "y", "x", "y")
        right = (Follows((0, 0, 0)), Times(1, (0, 0, 0)), Needed((), ()), Deeds([("same", "x", "y")]))
        for shows, paper in zip((shows_follows, shows_times, shows_needed, shows_deeds), right):
            for other in right:
                self.is_right(paper is other, shows, PLUS, four, other)

    def test_errors(self):
        told = Told(["x", "y"], [])
        for shows in (shows_follows, shows_times, shows_needed, shows_deeds):
            for value in NO_TOLDS:
                self.raised(BadTold("told"), shows, value, None, None)
            for four in NO_FOURS:
                self.raised(BadTold("four"), shows, told, four, Follows(()))
            for value in NO_NAMES + ("z",):
                self.raised(NoName(value), shows, told, ["x", value, "?", "?"], None)
        for value in NO_TOLDS:
            self.raised(BadTold("told"), shows_parted, value, None, None)
        for pairs in NO_PAIRS:
            self.raised(BadTold("pairs"), shows_parted, told, pairs, None)
        for value in NO_NAMES + ("z",):
            self.raised(NoName(value), shows_parted, told, [["x", "y"], ["x", value], ["?", "?"]], AllUnlike(()))


class CheckPartedTest(Case):
    def is_right_parted(self, told, pairs, value):
        """Whether it is a right AllUnlike, or a Same of one of the pairs."""
        if type(value) is Same:
            if repr((value.one, value.other)) not in [repr(tuple(pair)) for pair in pairs]:
                return False
            row = slow_row(told, (value.one, value.other, value.other, value.other))
            return are_ints(value.weights, len(told)) and makes(slow_rows(told), value.weights, row)
        if type(value) is not AllUnlike or type(value.papers) is not tuple or len(value.papers) != len(pairs):
            return False
        return all(is_slow_breaks(told, (one, other, other, other), paper)
                   for (one, other), paper in zip(pairs, value.papers))

    def test_bent_papers(self):
        chance = random.Random(8)
        for told in some_tolds(12, (1, 4), (0, 4), 9):
            for many in (0, 1, 3):
                pairs = [chance.choices(told.names, k=2) for _ in range(many)]
                paper = parted(told, pairs)
                self.is_right(True, shows_parted, told, pairs, paper)
                others = BENDS + tuple(told.names) + (follows(told, (told.names[0],) * 4), Breaks((0, 1, 1), 2))
                for bent in bent_papers(paper, others):
                    self.is_right(self.is_right_parted(told, pairs, bent), shows_parted, told, pairs, bent)
                for at, one in enumerate(paper.papers if paper else ()):
                    for bent in bent_papers(one, BENDS):
                        bent = AllUnlike(paper.papers[:at] + (bent,) + paper.papers[at + 1:])
                        self.is_right(self.is_right_parted(told, pairs, bent), shows_parted, told, pairs, bent)

    def test_same_of_any_pair(self):
        told = Told(["x", "y", "z", "w"], [("x", "y", "y", "y"), ("z", "y", "y", "y")])
        pairs = [["x", "w"], ["x", "y"], ["z", "x"], ["w", "w"]]
        for paper, wanted in [(Same("x", "y", (1, 0)), True), (Same("z", "x", (-1, 1)), True),
                              (Same("y", "x", (-1, 0)), False), (Same("w", "w", (0, 0)), True),
                              (Same("z", "z", (0, 0)), False), (Same("x", "y", (1, 1)), False),
                              (Same("x", "y", (True, 0)), False), (Same("x", "y", (1,)), False)]:
            self.is_right(wanted, shows_parted, told, pairs, paper)
            self.is_right(wanted, shows_parted, told, tuple(map(tuple, pairs)), paper)


def turned(fours):
    return {(c, d, a, b) for a, b, c, d in fours}


def middles(fours):
    return {(a, c, b, d) for a, b, c, d in fours}


def chained(fours):
    return {one[:2] + other[2:] for one in fours for other in fours if one[2:] == other[:2]}


class CheckDeedsTest(Case):
    def test_bent_deeds(self):
        for told in some_tolds(10, (2, 3), (1, 3), 10) + [SUMS]:
            for four in asked_of(told, 2):
                found = by_deeds(told, four)
                if found:
                    self.is_right(True, shows_deeds, told, four, found)
                    for bent in bent_papers(found, BENDS + ("told", "same", "turned", "chained", ("told", 0))):
                        self.is_right(is_right_deeds(told, four, bent.rows), shows_deeds, told, four, bent)

    def test_bent_lots(self):
        chance = random.Random(11)
        for told in some_tolds(6, (1, 2), (0, 2), 11) + [Told(["a", "b"], []), Told(["b", "a", "c"], [])]:
            four = tuple(chance.choices(told.names, k=4))
            found = by_deeds(told, four)
            if not found:
                self.is_right(True, shows_deeds, told, four, found)
                for bent in bent_papers(found, BENDS + (four, ("a", "a", "a", "a"), ("b", "b", "b", "b"))):
                    self.is_right(is_right_no_deeds(told, four, bent.fours), shows_deeds, told, four, bent)

    def test_any_closed_lot(self):
        told = Told(["a", "b", "c"], [("a", "b", "b", "c")])
        asked = ("a", "b", "c", "a")
        for more in itertools.product(told.names, repeat=4):
            lot = slow_closing(told.with_four(more))
            self.is_right(asked not in lot, shows_deeds, told, asked, NoDeeds(sorted(lot)))
        self.is_right(False, shows_deeds, told, asked, NoDeeds(sorted(slow_closing(Told(["a", "b", "c"], [])))))
        self.is_right(False, shows_deeds, told, asked, NoDeeds(sorted(slow_closing(told), reverse=True)))
        self.is_right(False, shows_deeds, told, asked, NoDeeds(sorted(slow_closing(told) | {("a", "a", "a", "b")})))
        self.is_right(False, shows_deeds, told, asked, Deeds([]))

    def test_lots_closed_by_two_of_the_deeds(self):
        found = 0
        for told in some_tolds(15, (3, 3), (1, 3), 12):
            for left in (turned, middles, chained):
                deeds = [deed for deed in (turned, middles, chained) if deed != left]
                lot = set(told.fours) | slow_same(told)
                while not set().union(*[deed(lot) for deed in deeds]) <= lot:
                    lot = lot.union(*[deed(lot) for deed in deeds])
                asked = [four for four in itertools.product(told.names, repeat=4) if four not in lot]
                for four in asked[::9]:
                    self.is_right(left(lot) <= lot, shows_deeds, told, four, NoDeeds(sorted(lot)))
                    found += not left(lot) <= lot
        self.assertGreater(found, 50)

    def test_each_deed(self):
        told = Told(["a", "b", "c"], [("a", "b", "b", "c"), ("b", "c", "c", "a")])
        rows = [("told", 0), ("told", 1), ("chained", 0, 1), ("turned", 2), ("middles", 3), ("same", "a", "c")]
        fours = [("a", "b", "b", "c"), ("b", "c", "c", "a"), ("a", "b", "c", "a"), ("c", "a", "a", "b"),
                 ("c", "a", "a", "b"), ("a", "c", "a", "c")]
        for at, four in enumerate(fours):
            self.is_right(True, shows_deeds, told, four, Deeds(rows[:at + 1]))
            self.is_right(True, shows_deeds, told, four, Deeds([list(row) for row in rows[:at + 1]]))
            for other in set(fours) - {four}:
                self.is_right(False, shows_deeds, told, other, Deeds(rows[:at + 1]))
        for row in [("chained", 1, 0), ("chained", 0, 2), ("chained", 0), ("turned", 2), ("turned", -1), ("told", 2),
                    ("told", -1), ("told", True), ("told", False), ("turned", False), ("same", "a"), ("same", "a", "d"),
                    ("same", "a", "b", "a"), ("other", 0), ("told",), (), ("told", 0, 0), "told", ("turned", 0, 1)]:
            self.is_right(False, shows_deeds, told, ("a", "b", "b", "c"), Deeds([("told", 0), ("told", 1), row]))
            self.is_right(False, shows_deeds, told, ("a", "b", "b", "c"), Deeds([("told", 1), row, ("told", 0)]))
