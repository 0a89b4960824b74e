"""The adders that are nearest to a rule."""

from fourthlike.errors import BadRule
from fourthlike.nearadders import Near, near_adders
from fourthlike.rules import Adder, Rule, rule_of
from tests.helpers import Case
from tests.test_misled import FEW
from tests.test_rules import NO_RULES, all_rows, slow_adders, slow_sum, some_rules


class NearAddersTest(Case):
    def test_against_all_adders(self):
        farthest = {}
        for rule in FEW + some_rules(300):
            away = {parts: sum(slow_sum(parts, row) != rule.outcome(row) for row in all_rows(rule.places))
                    for parts in slow_adders(rule.places)}
            found = near_adders(rule)
            self.assertIs(type(found), Near)
            self.same(found.many, min(away.values()))
            self.same([adder.parts for adder in found.adders],
                      [parts for parts in sorted(away) if away[parts] == found.many])
            self.assertTrue(all(type(adder) is Adder for adder in found.adders))
            farthest[rule.places] = max(farthest.get(rule.places, 0), found.many)
        self.assertEqual([farthest[places] for places in (1, 2, 3)], [0, 1, 2])
        self.assertLessEqual(farthest[4], 6)

    def test_far_rules(self):
        # The rule that multiplies the first two bits, and the last two, and adds, is as far away as can be.
        rule = Rule(4, [row for row in all_rows(4) if (row[0] * row[1] + row[2] * row[3]) % 2])
        self.same(near_adders(rule).many, 6)
        self.same(len(near_adders(rule).adders), 16)
        self.assertEqual(near_adders(rule_of(3, Adder((0, 2), 1))), Near(0, [Adder((0, 2), 1)]))

    def test_paper(self):
        found = Near(many=0, adders=[Adder([], 0)])
        self.same(found.many, 0)
        self.assertEqual(found.parts, (0, (Adder((), 0),)))
        self.same((found.word, bool(found)), ("near", True))

    def test_errors(self):
        for value in NO_RULES:
            self.raised(BadRule("rule"), near_adders, value)
