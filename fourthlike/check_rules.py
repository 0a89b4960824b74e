"""Whether papers on rules are right."""

from fourthlike.bits import is_bits_of
from fourthlike.checks import is_just
from fourthlike.misled import Misled, are_misleading, outcomes_of
from fourthlike.nearadders import Near, near_adders, rows_away
from fourthlike.rules import is_adder_below, need_rules


def is_right_misled(rule, rows):
    """Whether these values are four rows of bits that mislead the rule."""
    if not all([is_bits_of(row, rule.places) for row in rows]):
        return False
    a, b, c, d = rows
    return are_misleading(outcomes_of(rule), a, b, c, d)


def shows_adder(rule, value):
    """Whether value is the Adder that the rule is, or a Misled of any four rows that mislead it."""
    need_rules([("rule", rule)])
    if type(value) is Misled:
        return is_right_misled(rule, (value.a, value.b, value.c, value.d))
    return is_adder_below(value, rule.places - 1) and rows_away(outcomes_of(rule), value) == 0


def are_just_adders(value, adders):
    """Whether the value is a tuple of just these adders, in their order."""
    if not isinstance(value, tuple) or len(value) != len(adders):
        return False
    if not all([is_adder_below(one, None) for one in value]):
        return False
    return all([one.parts == adder.parts for one, adder in zip(value, adders)])


def shows_near(rule, value):
    """Whether value is the Near, its adders in their order."""
    found = near_adders(rule)
    if type(value) is not Near or not is_just(value.many, found.many):
        return False
    return are_just_adders(value.adders, found.adders)
