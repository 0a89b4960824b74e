"""Whether papers on rules are right."""

import itertools
import random
from unittest.mock import ANY

from fourthlike.check_rules import shows_adder, shows_near
from fourthlike.errors import BadRule
from fourthlike.misled import Misled, adder_of
from fourthlike.nearadders import Near, near_adders
from fourthlike.papers import Denial, Paper
from fourthlike.rules import Adder, Rule, rule_of
from tests.helpers import ODD_VALUES, Case
from tests.test_misled import FEW, PROPORTIONS, is_slowly_misled
from tests.test_rules import NO_ADDERS, NO_BIT_ROWS, NO_RULES, all_rows, all_rules, slow_adders, some_rules

BOTH = Rule(2, [[1, 1]])
NO_PAPERS = ODD_VALUES + (0, "", "adder", (), [], ANY, Paper("adder", (), 0), Denial("misled", (0,), (0,), (0,), (0,)),
                          Paper("near", 0, ()), Adder, Misled, Near, ((), 0), Rule(1, []))


class CheckAdderTest(Case):
    def test_all_adders(self):
        for rule in FEW + some_rules(20):
            found = adder_of(rule)
            self.is_right(True, shows_adder, rule, found)
            for parts in slow_adders(rule.places):
                self.is_right(bool(found) and parts == found.parts, shows_adder, rule, Adder(*parts))

    def test_all_fours(self):
        for rule in all_rules(1) + all_rules(2):
            for four in itertools.product(all_rows(rule.places), repeat=4):
                wanted = four in PROPORTIONS[rule.places] and is_slowly_misled(rule, four)
                self.is_right(wanted, shows_adder, rule, Misled(*four))
                self.is_right(wanted, shows_adder, rule, Misled(*map(list, four)))
        chance = random.Random(9)
        for rule in some_rules(30, 3) + some_rules(30):
            for four in chance.sample(PROPORTIONS[rule.places], 40):
                self.is_right(is_slowly_misled(rule, four), shows_adder, rule, Misled(*four))

    def test_bent_adders(self):
        rule = rule_of(3, Adder((0, 2), 1))
        for bad in NO_ADDERS + tuple(Adder(places, constant) for places, constant in [
                ((0,), 1), ((0, 2), 0), ((2, 0), 1), ((0, 1, 2), 1), ((0, 2, 3), 1), ((0, 3), 1), ((0, 2, 2), 1),
                ((-3, 2), 1), ((0, -1), 1), ((False, 2), 1), ((0, 2), True), ((0, 2), 3), ((0, 2), (1,)), (ANY, 1),
                ((0, 2), ANY), ((0, ANY), 1), ((0, 2.0), 1), ((0, 2), 1.0), ((0, 10 ** 30), 1)]):
            self.is_right(False, shows_adder, rule, bad)
        self.is_right(True, shows_adder, rule, Adder([0, 2], 1))
        for bad in NO_PAPERS + (((0, 2), 1), Paper("adder", (0, 2), 1), Near(0, [Adder((0, 2), 1)])):
            self.is_right(False, shows_adder, rule, bad)

    def test_bent_fours(self):
        four = [[0, 1], [0, 0], [1, 1], [1, 0]]
        self.is_right(True, shows_adder, BOTH, Misled(*four))
        for at in range(4):
            for bad in NO_BIT_ROWS + ([], [0], four[at] + [0], ANY, [ANY, 0], [0, ANY], [[0], 1], [False, True],
                                      [[0, 1]], [four[at][0] + 2, four[at][1]], [1 - four[at][0], four[at][1]]):
                bent = list(four)
                bent[at] = bad
                self.is_right(False, shows_adder, BOTH, Misled(*bent))
            bent = list(four)
            bent[at] = [bool(bit) for bit in four[at]]
            self.is_right(False, shows_adder, BOTH, Misled(*bent))
        self.is_right(False, shows_adder, BOTH, Misled(*[row + [0] for row in four]))
        for bad in NO_PAPERS + (four, Denial("misled", *four), Paper("misled", *four)):
            self.is_right(False, shows_adder, BOTH, bad)

    def test_errors(self):
        for value in NO_RULES:
            self.raised(BadRule("rule"), shows_adder, value, Adder((), 0))
            self.raised(BadRule("rule"), shows_near, value, None)


class CheckNearTest(Case):
    def test_what_near_adders_tells(self):
        for rule in FEW + some_rules(40):
            found = near_adders(rule)
            self.is_right(True, shows_near, rule, found)
            self.is_right(True, shows_near, rule, Near(found.many, [Adder(list(one.places), one.constant)
                                                                    for one in found.adders]))
            adders = list(found.adders)
            for bent in [adders[1:], adders[:-1], adders + adders[:1], adders[:1] * len(adders) + adders, [],
                         adders[::-1] if len(adders) > 1 else [None]]:
                self.is_right(False, shows_near, rule, Near(found.many, bent))
            for many in (found.many + 1, found.many - 1, -found.many - 1, None, str(found.many), (found.many,)):
                self.is_right(False, shows_near, rule, Near(many, adders))

    def test_bent_parts(self):
        adders = [Adder((), 0), Adder((0,), 0), Adder((0, 1), 1), Adder((1,), 0)]
        self.is_right(True, shows_near, BOTH, Near(1, adders))
        for many in (True, 1.0, "1", None, (1,), 0, 2, ANY, -1):
            self.is_right(False, shows_near, BOTH, Near(many, adders))
        self.is_right(False, shows_near, Rule(1, []), Near(False, [Adder((), 0)]))
        for at in range(4):
            for bad in NO_ADDERS + NO_PAPERS + (adders[at].parts, adders[at - 1], Paper("adder", *adders[at].parts),
                                                Adder(adders[at].places, 1 - adders[at].constant), adders[at:at + 1],
                                                Adder(adders[at].places, bool(adders[at].constant))):
                self.is_right(False, shows_near, BOTH, Near(1, adders[:at] + [bad] + adders[at + 1:]))
        for bad in NO_PAPERS + (adders[0], "abcd", {0: adders}):
            self.is_right(False, shows_near, BOTH, Near(1, bad))
            self.is_right(False, shows_near, BOTH, bad)
        self.is_right(False, shows_near, BOTH, Near(1, adders[:1] + [Adder((False,), 0)] + adders[2:]))
        self.is_right(False, shows_near, BOTH, Paper("near", 1, adders))
