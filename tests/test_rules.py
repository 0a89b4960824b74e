"""Rules on rows of bits, and adders."""

import itertools
import random

from fourthlike.errors import BadNumber, BadPaper, BadRow, BadRule, BadText, Misfit, NoPlace, Twice
from fourthlike.papers import Denial, Paper
from fourthlike.rules import Adder, Rule, joined, rule_of
from tests.helpers import NO_ITEMS, NO_LISTS, NO_NUMBERS, ODD_VALUES, Case, bent_texts

NO_BITS = (2, -1, 10 ** 30, 1.0, 0.5, "0", "1", None, True, False, [0], (1,), {}, b"0")
NO_BIT_ROWS = NO_LISTS + ("", "01", {0: 1}) + tuple([0, bit] for bit in NO_BITS) + tuple((bit,) for bit in NO_BITS)
NO_RULES = ODD_VALUES + (0, "", "2 : 0 0 0 1", [], (2, ()), [2, [[1, 1]]])
# Adders that are none, and the one thing that is wrong with each.
NO_ADDERS = tuple(Adder(places, constant) for places, constant in [
    ((1, 0), 0), ((0, 0), 0), ((-1,), 0), ((0, -1), 1), ((True,), 0), ((0, True), 0), (("0",), 0), ((None,), 1), (0, 0),
    (None, 0), ("01", 0), ({0: 1}, 0), (((0,),), 0), ((1.0,), 0), (True, 0), ((0,), 2), ((0,), -1), ((0,), True),
    ((0,), False), ((), None), ((), "0"), ((), 1.0), ((), (0,)), ((), ()), (Adder((), 0), 0), ((2, 1, 0), 0)])


def all_rows(places):
    return list(itertools.product((0, 1), repeat=places))


def rule_from(places, outcomes):
    """The rule with these outcomes at all rows, ascending."""
    return Rule(places, [row for row, outcome in zip(all_rows(places), outcomes) if outcome])


def all_rules(places):
    return [rule_from(places, outcomes) for outcomes in itertools.product((0, 1), repeat=2 ** places)]


def some_rules(many, places=4, seed=1):
    chance = random.Random(seed)
    return [rule_from(places, chance.choices((0, 1), k=2 ** places)) for _ in range(many)]


def slow_adders(places):
    """All adders of so many places, as parts, ascending by their places, then by their constants."""
    return sorted((some, constant) for many in range(places + 1)
                  for some in itertools.combinations(range(places), many) for constant in (0, 1))


def slow_sum(parts, row):
    """The outcome of an adder with these parts."""
    return (parts[1] + sum(row[place] for place in parts[0])) % 2


def can_stand(ahead, item):
    """Whether the item can stand in the text of a rule behind those ahead."""
    if not ahead:
        return item in ("1", "2", "3", "4")
    if len(ahead) == 1:
        return item == ":"
    return len(ahead) < 2 + 2 ** int(ahead[0]) and item in ("0", "1")


def can_end(items):
    return bool(items) and len(items) == 2 + 2 ** int(items[0])


class AdderTest(Case):
    def test_outcomes_at_all_rows(self):
        for places in range(6):
            for parts in slow_adders(places):
                adder = Adder(list(parts[0]), parts[1])
                for row in all_rows(places):
                    self.same(adder.outcome(row), slow_sum(parts, row))
                    self.same(adder.outcome([*row, 1, 0]), slow_sum(parts, row))
        self.same(Adder((0, 99), 1).outcome([1] * 100), 1)

    def test_paper(self):
        self.same(Adder(places=[0, 2], constant=1).parts, ((0, 2), 1))
        self.same((Adder((), 0).word, bool(Adder((), 0)), Adder([1], 0).places), ("adder", True, (1,)))
        self.assertEqual(Adder([1], 0), Adder((1,), 0))
        self.assertNotEqual(Adder([1], 0), Adder((1,), 1))
        for value in ODD_VALUES:
            self.same(Adder(value, 0).constant, 0)

    def test_adders_that_are_none(self):
        for adder in NO_ADDERS:
            for row in ([], [0, 1, 0], [2], None):
                self.raised(BadPaper("adder"), adder.outcome, row)

    def test_rows_that_are_none(self):
        for row in NO_BIT_ROWS:
            self.raised(BadRow("row"), Adder((0, 1), 0).outcome, row)
            self.raised(BadRow("row"), Adder((), 0).outcome, row)
        self.raised(BadRow("row"), Adder((5,), 0).outcome, [0, 2])

    def test_places_that_the_row_lacks(self):
        self.raised(NoPlace(0), Adder((0, 1), 0).outcome, [])
        self.raised(NoPlace(1), Adder((0, 1, 4), 0).outcome, (1,))
        self.raised(NoPlace(4), Adder((0, 1, 4), 0).outcome, (1, 0, 0, 0))
        self.raised(NoPlace(10 ** 40), Adder((0, 10 ** 40), 0).outcome, (1, 0, 0, 0))


class RulesTest(Case):
    def test_places(self):
        for places in (1, 2, 3, 4):
            self.same((Rule(places, []).places, Rule(places, ()).ones), (places, ()))
        for places in (0, 5, -1, 10 ** 30, 2.0, "2") + NO_NUMBERS:
            self.raised(BadNumber("places"), Rule, places, [])
            self.raised(BadNumber("places"), Rule, places, None)
            self.raised(BadNumber("places"), rule_of, places, Adder((), 0))
            self.raised(BadNumber("places"), rule_of, places, None)

    def test_ones_that_are_none(self):
        for ones in NO_LISTS + ("", "11", {(1, 1): 1}, [1, 1], (0, 1), [[1, 1], None]):
            self.raised(BadRow("ones"), Rule, 2, ones)
        for row in NO_BIT_ROWS:
            self.raised(BadRow("ones"), Rule, 2, [[1, 1], row])
            self.raised(BadRow("ones"), Rule, 2, [[1], [1], row])
        for row in ([], [1], (0, 1, 1), [0] * 1000):
            self.raised(Misfit("places"), Rule, 2, [[1, 1], row])
            self.raised(Misfit("places"), Rule, 2, [[1, 1], [1, 1], row])
        self.raised(Twice((1, 1)), Rule, 2, [[0, 0], [1, 1], (1, 1), [0, 0]])
        self.raised(Twice((0, 0)), Rule, 2, [[1, 0], [0, 0], [0, 0], [1, 0]])

    def test_outcomes_at_all_rows(self):
        for rule in [one for places in (1, 2, 3) for one in all_rules(places)] + some_rules(40):
            self.same(rule.ones, tuple(sorted(rule.ones)))
            for row in all_rows(rule.places):
                self.same(rule.outcome(row), int(row in rule.ones))
                self.same(rule.outcome(list(row)), int(row in rule.ones))
        self.same(Rule(places=2, ones=[[1, 1], [0, 0]]).ones, ((0, 0), (1, 1)))

    def test_outcomes_at_wrong_rows(self):
        rule = Rule(2, [[1, 1]])
        for row in NO_BIT_ROWS:
            self.raised(BadRow("row"), rule.outcome, row)
        for row in ([], [1], (1, 1, 1)):
            self.raised(Misfit("places"), rule.outcome, row)

    def test_what_is_passed_is_copied(self):
        ones = [[1, 0]]
        rule = Rule(2, ones)
        ones[0].reverse()
        ones.append([0, 0])
        self.same(rule.ones, ((1, 0),))

    def test_equality(self):
        rules = all_rules(1) + all_rules(2)
        for one, other in itertools.product(rules, repeat=2):
            self.assertIs(one == other, str(one) == str(other))
        for value in NO_RULES + (rules[0].ones,):
            self.assertFalse(rules[0] == value)
        self.assertEqual(Rule(2, [[1, 0], [0, 1]]), Rule(2, ((0, 1), (1, 0))))

    def test_texts(self):
        for rule in [one for places in (1, 2, 3) for one in all_rules(places)] + some_rules(40):
            text = "%d : " % rule.places + " ".join(str(rule.outcome(row)) for row in all_rows(rule.places))
            self.same(str(rule), text)
            self.assertEqual(Rule.read(text), rule)

    def test_texts_bent_at_each_item(self):
        for rule in (Rule(1, [[1]]), Rule(2, [[1, 1]]), Rule(3, [[0, 0, 0], [1, 1, 0]])) + tuple(some_rules(1)):
            for bent in bent_texts(str(rule), NO_ITEMS + ("0", "1", "2", "3", "4", "5", ":", "/", "00", "10")):
                self.reads(Rule.read, bent, can_stand, can_end, lambda items: True)
        for text, item in (("", 0), ("0 : 0", 0), ("5 : 0", 0), ("2", 1), ("2 :", 2), ("2 : 0 0 0", 5),
                           ("2 : 0 0 0 0 0", 6), ("2 : 0 0 2 0", 4), ("1 : 0 1 ", 4), ("2 : 0 0 0 0\n", 5),
                           ("1 0 1", 1)):
            self.raised(BadText(0, item), Rule.read, text)
        for value in ODD_VALUES + (1, ["1", ":", "0", "1"], Rule(1, [])):
            self.raised(BadText(0, 0), Rule.read, value)

    def test_moved(self):
        for rule in all_rules(1) + all_rules(2) + some_rules(30, 3) + some_rules(10):
            for order in itertools.permutations(range(rule.places)):
                new = rule.moved(list(order))
                self.assertEqual(rule.moved(order), new)
                for row in all_rows(rule.places):
                    self.same(new.outcome(row), rule.outcome([row[place] for place in order]))

    def test_moved_wrongly(self):
        rule = Rule(3, [[1, 1, 0]])
        for order in ODD_VALUES + (0, "", "012", [], [0, 1], [0, 1, 2, 3], [0, 1, 1], [1, 2, 3], [-1, 0, 1],
                                   [0, True, 2], [False, 1, 2], {0: 0, 1: 1, 2: 2}, [0, 1, "2"], [[0, 1, 2]],
                                   [0.0, 1, 2]):
            self.raised(BadNumber("order"), rule.moved, order)

    def test_joined(self):
        pairs = list(itertools.product(all_rules(2), repeat=2)) + list(zip(some_rules(30), some_rules(30, 4, 2)))
        for one, other in pairs:
            found = joined(one, other)
            for row in all_rows(one.places):
                self.same(found.outcome(row), (one.outcome(row) + other.outcome(row)) % 2)
        rule = Rule(2, [])
        for value in NO_RULES:
            self.raised(BadRule("one"), joined, value, None)
            self.raised(BadRule("one"), joined, value, rule)
            self.raised(BadRule("other"), joined, rule, value)
        self.raised(Misfit("places"), joined, rule, Rule(3, []))

    def test_rule_of(self):
        for places in (1, 2, 3, 4):
            rules = [rule_of(places, Adder(*parts)) for parts in slow_adders(places)]
            for parts, rule in zip(slow_adders(places), rules):
                self.same(rule.ones, tuple(row for row in all_rows(places) if slow_sum(parts, row)))
            for one, other in itertools.combinations(rules, 2):
                self.assertIn(len(set(one.ones) ^ set(other.ones)), (2 ** places // 2, 2 ** places))

    def test_rule_of_wrong_adders(self):
        for value in NO_ADDERS + ODD_VALUES + (0, "", (), ((), 0), Paper("adder", (), 0), Denial("adder", (), 0), Adder,
                                               Rule(1, [])):
            self.raised(BadPaper("adder"), rule_of, 2, value)
        self.raised(NoPlace(2), rule_of, 2, Adder((0, 2, 3), 1))
        self.raised(NoPlace(1), rule_of, 1, Adder((1, 5), 1))
        self.raised(NoPlace(4), rule_of, 4, Adder((0, 1, 2, 3, 4), 0))
