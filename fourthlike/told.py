"""Told proportions of unknowns."""

from fourthlike.checks import are_lists_of, are_names, is_list, is_within
from fourthlike.errors import BadNumber, BadText, BadTold, TooMany, Twice
from fourthlike.nameneeds import need_names, need_once
from fourthlike.texts import behind_sign, different_names_at, items_of, need_sign, one_of_at, with_sign_between

MOST_NAMES = 6
MOST_FOURS = 8


class Told:
    """Unknowns, and told fours of them."""

    def __init__(self, names, fours):
        if not are_names(names):
            raise BadTold("names")
        need_once(names)
        if not are_lists_of(fours, 4):
            raise BadTold("fours")
        there = {name: True for name in names}
        for four in fours:
            need_names(there, four)
        if len(names) > MOST_NAMES:
            raise TooMany("names", MOST_NAMES)
        if len(fours) > MOST_FOURS:
            raise TooMany("fours", MOST_FOURS)
        self.names = tuple(names)
        self.fours = tuple([tuple(four) for four in fours])

    def __len__(self):
        return len(self.fours)

    def __eq__(self, other):
        return isinstance(other, Told) and self.names == other.names and self.fours == other.fours

    def __str__(self):
        return " ".join([*self.names, "|", *with_sign_between(self.fours, ",")])

    def with_four(self, four):
        """The Told with this four behind the others."""
        need_four(self, four)
        return Told(self.names, [*self.fours, four])

    def without(self, number):
        """The Told without the told four with this number."""
        if not is_within(number, 0, len(self.fours) - 1):
            raise BadNumber("number")
        return Told(self.names, [*self.fours[:number], *self.fours[number + 1:]])

    def put_in(self, name, other):
        """The Told in which the name stands for the other one everywhere."""
        need_names(self.names, (name, other))
        if name == other:
            raise Twice(other)
        fours = [[name if one == other else one for one in four] for four in self.fours]
        return Told([one for one in self.names if one != other], fours)

    @staticmethod
    def read(text):
        """The Told whose text this is."""
        items = items_of(text)
        names = different_names_at(items, 0, MOST_NAMES)
        need_sign(items, len(names), "|")
        return Told(names, fours_at(items, len(names) + 1, names))


def fours_at(items, at, names):
    """The list of the fours that stand there and behind, up to the end."""
    fours = []
    while at < len(items):
        if len(fours) == MOST_FOURS:
            raise BadText(0, at)
        at = behind_sign(items, at, ",", len(fours))
        fours.append(tuple([one_of_at(items, at + number, names) for number in range(4)]))
        at += 4
    return fours


def need_four(told, four):
    """Raises an error unless this is a four of unknowns of the Told."""
    if not is_list(four) or len(four) != 4:
        raise BadTold("four")
    need_names(told.names, four)


def need_told(told):
    """Raises BadTold unless this is a Told."""
    if not isinstance(told, Told):
        raise BadTold("told")


def need_told_and_four(told, four):
    """Raises an error unless these are a Told and a four of its unknowns."""
    need_told(told)
    need_four(told, four)


def row_of(told, four):
    """For each unknown how often it is first or fourth in the four, less how often it is second or third."""
    need_told_and_four(told, four)
    a, b, c, d = four
    return tuple([[a, d].count(name) - [b, c].count(name) for name in told.names])
