"""Fours of rows of bits that mislead rules."""

import itertools
import random

from fourthlike.errors import BadRow, BadRule, Misfit
from fourthlike.likenesses import fourth_of, is_proportion
from fourthlike.misled import Misled, adder_of, is_misled, many_misled
from fourthlike.rows import Row
from fourthlike.rules import Adder, Rule, joined, rule_of
from tests.helpers import Case
from tests.test_rules import NO_BIT_ROWS, NO_RULES, all_rows, all_rules, slow_adders, slow_sum, some_rules

FEW = [rule for places in (1, 2, 3) for rule in all_rules(places)]


def slow_proportions(places):
    """All fours of rows that are a proportion."""
    rows = all_rows(places)
    found = []
    for a, b, c in itertools.product(rows, repeat=3):
        fourth = fourth_of(Row(2, a), Row(2, b), Row(2, c))
        found.extend([(a, b, c, fourth.row.places)] if fourth else [])
    return found


PROPORTIONS = {places: slow_proportions(places) for places in (1, 2, 3, 4)}


def is_slowly_misled(rule, four):
    """Whether four rows in proportion mislead the rule, by the words of the document."""
    w, x, y, z = [int(row in rule.ones) for row in four]
    return not (x == y != w) and z != (y if w == x else x)


def is_square(four):
    """Whether four rows are a square."""
    a, b, c, d = four
    apart = [[place for place, (one, other) in enumerate(zip(a, row)) if one != other] for row in (b, c, d)]
    return len(apart[0]) == len(apart[1]) == 1 and apart[0] != apart[1] and apart[2] == sorted(apart[0] + apart[1])


class MisledTest(Case):
    def test_all_fours_of_few_places(self):
        for rule in all_rules(1) + all_rules(2):
            for four in itertools.product(all_rows(rule.places), repeat=4):
                wanted = four in PROPORTIONS[rule.places] and is_slowly_misled(rule, four)
                self.is_right(wanted, is_misled, rule, *four)

    def test_some_fours_of_more_places(self):
        chance = random.Random(2)
        for rule in some_rules(40, 3) + some_rules(40, 4):
            for four in chance.sample(PROPORTIONS[rule.places], 40):
                self.is_right(is_slowly_misled(rule, four), is_misled, rule, *map(list, four))
            for _ in range(40):
                four = [chance.choice(all_rows(rule.places)) for _ in range(4)]
                wanted = is_proportion(*[Row(2, row) for row in four]) and is_slowly_misled(rule, four)
                self.is_right(wanted, is_misled, rule, *four)

    def test_how_many_mislead(self):
        for rule in FEW + some_rules(60):
            many = many_misled(rule)
            self.same(many, sum(is_slowly_misled(rule, four) for four in PROPORTIONS[rule.places]))
            self.assertEqual(many % 6, 0)
        for parts in slow_adders(4):
            adder = rule_of(4, Adder(*parts))
            self.same(many_misled(adder), 0)
            for rule in some_rules(2):
                self.same(many_misled(joined(rule, adder)), many_misled(rule))

    def test_adders_and_least_squares(self):
        adders = 0
        for rule in FEW + some_rules(200):
            found = adder_of(rule)
            parts = [one for one in slow_adders(rule.places)
                     if all(slow_sum(one, row) == rule.outcome(row) for row in all_rows(rule.places))]
            if parts:
                self.assertEqual(len(parts), 1)
                self.assertIs(type(found), Adder)
                self.same(found.parts, parts[0])
                adders += 1
                continue
            self.assertIs(type(found), Misled)
            wanted = min(four for four in PROPORTIONS[rule.places] if is_square(four) and is_slowly_misled(rule, four))
            self.same(found.parts, wanted)
            self.same((found.a, found.b, found.c, found.d), wanted)
            self.is_right(True, is_misled, rule, *found.parts)
        self.assertEqual(adders, 4 + 8 + 16)
        for parts in slow_adders(4):
            self.same(adder_of(rule_of(4, Adder(*parts))).parts, parts)

    def test_paper(self):
        found = Misled(a=[0], b=[1], c=[0], d=[1])
        self.same(found.parts, ((0,), (1,), (0,), (1,)))
        self.same((found.word, bool(found)), ("misled", False))

    def test_errors(self):
        rule = Rule(2, [[1, 1]])
        for value in NO_RULES:
            self.raised(BadRule("rule"), is_misled, value, None, None, None, None)
            self.raised(BadRule("rule"), many_misled, value)
            self.raised(BadRule("rule"), adder_of, value)
        for at in range(4):
            for row in NO_BIT_ROWS:
                self.raised(BadRow("abcd"[at]), is_misled, rule, *[[0, 1]] * at, row, *[None] * (3 - at))
                self.raised(BadRow("abcd"[at]), is_misled, rule, *[[0]] * at, row, *[[1]] * (3 - at))
            for row in ([], [0], (0, 1, 1)):
                self.raised(Misfit("places"), is_misled, rule, *[[0, 1]] * at, row, *[[0, 1]] * (3 - at))

    def test_short_answers(self):
        for rule in some_rules(5) + [Rule(4, []), Rule(4, all_rows(4))]:
            self.shortly(many_misled, rule)
            self.shortly(adder_of, rule)
