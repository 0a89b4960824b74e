"""How many fourths three words have, and the fourth with a number."""

from fourthlike.checks import is_within
from fourthlike.errors import BadNumber
from fourthlike.wordlots import WordLots
from fourthlike.wordneeds import MOST_IN_FOURTHS, need_short, need_short_words, need_words


def many_fourths(a, b, c):
    """How many fourths there are."""
    need_short_words([("a", a), ("b", b), ("c", c)], MOST_IN_FOURTHS)
    lots = WordLots(a, b, c)
    return lots.many_from(lots.first_lot())


def fourth_at(a, b, c, number):
    """The fourth with this number, ascending."""
    need_words([("a", a), ("b", b), ("c", c)])
    if not is_within(number, 0, None):
        raise BadNumber("number")
    need_short((a, b, c), MOST_IN_FOURTHS)
    lots = WordLots(a, b, c)
    first = lots.first_lot()
    if number >= lots.many_from(first):
        raise BadNumber("number")
    return lots.end_at(first, number)
