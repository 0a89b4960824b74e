"""What comes of told fours by deeds alone."""

from fourthlike.papers import Denial, Paper
from fourthlike.told import need_told, need_told_and_four


class Deeds(Paper):
    """Deeds in order, each of which gives a four, the last one the asked four."""

    def __init__(self, rows):
        Paper.__init__(self, "deeds", rows)
        self.rows = self.parts[0]


class NoDeeds(Denial):
    """A closed lot without the asked four."""

    def __init__(self, fours):
        Denial.__init__(self, "nodeeds", fours)
        self.fours = self.parts[0]


def turned_about(four):
    """c : d = a : b."""
    a, b, c, d = four
    return c, d, a, b


def middles_exchanged(four):
    """a : c = b : d."""
    a, b, c, d = four
    return a, c, b, d


def chained(one, other):
    """a : b = e : f."""
    return (*one[:2], *other[2:])


def first_fours(told):
    """The pairs of a told or a same four and the deed that gives it, each four once."""
    found = {}
    for number, four in enumerate(told.fours):
        found.setdefault(four, ("told", number))
    for a in told.names:
        for b in told.names:
            found.setdefault((a, b, a, b), ("same", a, b))
    return list(found.items())


class FoursByDeeds:
    """The fours that come by deeds, in the order in which they come, each with the deed that gives it.

    In a deed the numbers of fours are those of this order.
    """

    def __init__(self, told):
        self.fours = []
        self.reasons = []
        self._numbers = {}
        self._begun = {}
        for four, deed in first_fours(told):
            self.put_in(four, deed)
        at = 0
        while at < len(self.fours):
            self.go_on_from(at)
            at += 1

    def put_in(self, four, deed):
        """Puts the four behind the others, unless it is there."""
        if four not in self._numbers:
            number = len(self.fours)
            self._numbers[four] = number
            self._begun.setdefault(four[:2], []).append(number)
            self.fours.append(four)
            self.reasons.append(deed)

    def go_on_from(self, at):
        """Puts in what the deeds make of the four with this number, chained to each that is there.

        What comes of another one chained to it comes of both turned about, and then turned about again.
        """
        four = self.fours[at]
        self.put_in(turned_about(four), ("turned", at))
        self.put_in(middles_exchanged(four), ("middles", at))
        for number in list(self._begun.get(four[2:], [])):
            self.put_in(chained(four, self.fours[number]), ("chained", at, number))

    def number_of(self, four):
        """The number of the four, None if it does not come."""
        return self._numbers.get(four)


def is_on_fours(deed):
    """Whether the deed makes a four of other fours."""
    return deed[0] in ("turned", "middles", "chained")


def needed_for(reasons, number):
    """The ascending list of the numbers of the fours that the one with this number comes of, itself with them."""
    needed = {number: True}
    for at in range(number, -1, -1):
        if at in needed and is_on_fours(reasons[at]):
            for ahead in reasons[at][1:]:
                needed[ahead] = True
    return sorted(needed)


def rows_for(reasons, number):
    """The deeds that lead to the four with this number, with the numbers of their own rows."""
    needed = needed_for(reasons, number)
    place = {one: at for at, one in enumerate(needed)}
    rows = []
    for one in needed:
        deed = reasons[one]
        rows.append((deed[0], *[place[ahead] for ahead in deed[1:]]) if is_on_fours(deed) else deed)
    return rows


def closed_by_deeds(told):
    """The ascending tuple of the fours of the least closed lot."""
    need_told(told)
    return tuple(sorted(FoursByDeeds(told).fours))


def by_deeds(told, four):
    """A Deeds of a four that comes by deeds, otherwise the NoDeeds of the least closed lot."""
    need_told_and_four(told, four)
    found = FoursByDeeds(told)
    number = found.number_of(tuple(four))
    return NoDeeds(sorted(found.fours)) if number is None else Deeds(rows_for(found.reasons, number))
