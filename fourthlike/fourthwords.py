"""All fourths of three words."""

from fourthlike.errors import TooMany
from fourthlike.papers import Denial
from fourthlike.wordlots import WordLots
from fourthlike.wordneeds import MOST_IN_FOURTHS, need_short_words
from fourthlike.wordsteps import all_places, last_place

MOST_FOURTHS = 400


class NoWord(Denial):
    """A closed lot of spots without the last one."""

    def __init__(self, spots):
        Denial.__init__(self, "noword", spots)
        self.spots = self.parts[0]


def fourths_of_words(a, b, c):
    """The ascending tuple of all fourths, each once."""
    need_short_words([("a", a), ("b", b), ("c", c)], MOST_IN_FOURTHS)
    lots = WordLots(a, b, c)
    if lots.many_from(lots.first_lot()) > MOST_FOURTHS:
        raise TooMany("fourths", MOST_FOURTHS)
    return tuple(lots.ends_from(lots.first_lot()))


def no_word(a, b, c):
    """None if there is a fourth, otherwise the NoWord of all spots that can be reached."""
    need_short_words([("a", a), ("b", b), ("c", c)], MOST_IN_FOURTHS)
    spots = all_places((a, b, c))
    return None if last_place((a, b, c)) in spots else NoWord(spots)
