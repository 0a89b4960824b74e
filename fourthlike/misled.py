"""Fours of rows of bits that mislead rules."""

from fourthlike.bits import all_bits, fourth_outcome, need_bits
from fourthlike.closings import fourth_places
from fourthlike.papers import Denial
from fourthlike.rules import Adder, need_rules, outcome_at


class Misled(Denial):
    """Four rows of bits that mislead a rule."""

    def __init__(self, a, b, c, d):
        Denial.__init__(self, "misled", a, b, c, d)
        self.a, self.b, self.c, self.d = self.parts


def outcomes_of(rule):
    """A dict of all rows of bits, each with its outcome."""
    return {row: outcome_at(rule, row) for row in all_bits(rule.places)}


def are_misleading(outcomes, a, b, c, d):
    """Whether four rows, tuples, mislead the rule with these outcomes."""
    if fourth_places(a, b, c) != d:
        return False
    outcome = fourth_outcome(outcomes[a], outcomes[b], outcomes[c])
    return outcome is not None and outcome != outcomes[d]


def is_misled(rule, a, b, c, d):
    """Whether the four rows of bits mislead the rule."""
    need_rules([("rule", rule)])
    need_bits([("a", a), ("b", b), ("c", c), ("d", d)], rule.places)
    return are_misleading(outcomes_of(rule), tuple(a), tuple(b), tuple(c), tuple(d))


def proportions_of(rows):
    """The ascending list of the fours of these rows that are a proportion, if all their fourths are among them."""
    threes = [(a, b, c, fourth_places(a, b, c)) for a in rows for b in rows for c in rows]
    return [four for four in threes if four[3] is not None]


def many_misled(rule):
    """How many fours of rows mislead the rule."""
    need_rules([("rule", rule)])
    outcomes = outcomes_of(rule)
    return len([1 for a, b, c, d in proportions_of(list(outcomes)) if are_misleading(outcomes, a, b, c, d)])


def changed_at(row, place):
    """The row with the other bit at this place."""
    return row[:place] + (1 - row[place],) + row[place + 1:]


def squares(places):
    """The ascending list of all squares."""
    return sorted([(row, changed_at(row, one), changed_at(row, other), changed_at(changed_at(row, one), other))
                   for row in all_bits(places) for one in range(places) for other in range(places) if one != other])


def adder_of(rule):
    """The Adder that the rule is, or the Misled of the least square that misleads it."""
    need_rules([("rule", rule)])
    outcomes = outcomes_of(rule)
    for a, b, c, d in squares(rule.places):
        if are_misleading(outcomes, a, b, c, d):
            return Misled(a, b, c, d)
    zeros = (0,) * rule.places
    constant = outcomes[zeros]
    return Adder([place for place in range(rule.places) if outcomes[changed_at(zeros, place)] != constant], constant)
