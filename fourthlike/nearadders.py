"""The adders that are nearest to a rule."""

from fourthlike.misled import outcomes_of
from fourthlike.papers import Paper
from fourthlike.rules import all_adders, need_rules, sum_at


class Near(Paper):
    """The fewest rows that a rule is away from an adder, and all adders that it is so many rows away from."""

    def __init__(self, many, adders):
        Paper.__init__(self, "near", many, adders)
        self.many, self.adders = self.parts


def rows_away(outcomes, adder):
    """At how many rows the rule with these outcomes parts from the adder."""
    return len([row for row in outcomes if outcomes[row] != sum_at(adder, row)])


def near_adders(rule):
    """The Near of a rule."""
    need_rules([("rule", rule)])
    outcomes = outcomes_of(rule)
    adders = all_adders(rule.places)
    away = [rows_away(outcomes, adder) for adder in adders]
    many = min(away)
    return Near(many, [adder for adder, one in zip(adders, away) if one == many])
