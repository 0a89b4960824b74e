"""Rules on rows of bits, and adders."""

from fourthlike.bits import all_bits, is_bit, is_bits, need_bits
from fourthlike.checks import are_ascending, is_list, is_order_of, is_within
from fourthlike.errors import BadNumber, BadPaper, BadRow, BadRule, Misfit, NoPlace
from fourthlike.nameneeds import need_once
from fourthlike.papers import Paper
from fourthlike.texts import items_of, need_end, need_sign, number_at

MOST_PLACES = 4


class Adder(Paper):
    """An adder: some places, and a constant."""

    def __init__(self, places, constant):
        Paper.__init__(self, "adder", places, constant)
        self.places, self.constant = self.parts

    def outcome(self, row):
        """The outcome at a row of bits that has all these places."""
        if not is_adder_below(self, None):
            raise BadPaper("adder")
        if not is_bits(row):
            raise BadRow("row")
        need_places(self, len(row))
        return sum_at(self, row)


class Rule:
    """A rule: an outcome for each row of bits."""

    def __init__(self, places, ones):
        need_rule_places(places)
        if not is_list(ones) or not all([is_bits(row) for row in ones]):
            raise BadRow("ones")
        rows = [tuple(row) for row in ones]
        if any([len(row) != places for row in rows]):
            raise Misfit("places")
        need_once(rows)
        self.places = places
        self.ones = tuple(sorted(rows))

    def outcome(self, row):
        """The outcome at a row of bits."""
        need_bits([("row", row)], self.places)
        return outcome_at(self, tuple(row))

    def __eq__(self, other):
        return isinstance(other, Rule) and self.places == other.places and self.ones == other.ones

    def __str__(self):
        return " ".join([str(self.places), ":", *[str(outcome_at(self, row)) for row in all_bits(self.places)]])

    def moved(self, order):
        """The rule whose outcome at a row is that of this one at the row moved by the order."""
        if not is_order_of(order, self.places):
            raise BadNumber("order")
        return Rule(self.places, [row for row in all_bits(self.places)
                                  if outcome_at(self, tuple([row[place] for place in order])) == 1])

    @staticmethod
    def read(text):
        """The rule whose text this is."""
        items = items_of(text)
        places = number_at(items, 0, 1, MOST_PLACES)
        need_sign(items, 1, ":")
        rows = all_bits(places)
        outcomes = [number_at(items, 2 + at, 0, 1) for at in range(len(rows))]
        need_end(items, 2 + len(rows))
        return Rule(places, [row for row, outcome in zip(rows, outcomes) if outcome == 1])


def need_rule_places(places):
    """Raises BadNumber unless a rule can have so many places."""
    if not is_within(places, 1, MOST_PLACES):
        raise BadNumber("places")


def need_rules(named):
    """Raises BadRule for the first of the pairs (parameter, value) that is no rule."""
    for part, rule in named:
        if not isinstance(rule, Rule):
            raise BadRule(part)


def is_adder_below(value, most):
    """Whether the value is a right adder with places up to most; None is no bound."""
    return type(value) is Adder and are_ascending(value.places, most) and is_bit(value.constant)


def need_places(adder, many):
    """Raises NoPlace for the first place of the adder that is not below so many."""
    for place in adder.places:
        if place >= many:
            raise NoPlace(place)


def sum_at(adder, row):
    """The outcome of a right adder at a row of bits that has all its places."""
    return (adder.constant + sum([row[place] for place in adder.places])) % 2


def outcome_at(rule, row):
    """The outcome of the rule at a row, a tuple of as many bits."""
    return 1 if row in rule.ones else 0


def all_adders(places):
    """All adders of so many places, ascending by their places, then by their constants."""
    some = sorted([tuple([place for place, bit in enumerate(row) if bit == 1]) for row in all_bits(places)])
    return [Adder(one, constant) for one in some for constant in (0, 1)]


def joined(one, other):
    """The rule whose outcome at each row is the sum by two of both outcomes."""
    need_rules([("one", one), ("other", other)])
    if one.places != other.places:
        raise Misfit("places")
    return Rule(one.places, [row for row in all_bits(one.places) if outcome_at(one, row) != outcome_at(other, row)])


def rule_of(places, adder):
    """The rule of so many places that the adder is."""
    need_rule_places(places)
    if not is_adder_below(adder, None):
        raise BadPaper("adder")
    need_places(adder, places)
    return Rule(places, [row for row in all_bits(places) if sum_at(adder, row) == 1])
