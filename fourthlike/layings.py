"""Words in a proportion, by pieces; words laid in words."""

from fourthlike.papers import Denial, Paper
from fourthlike.wordneeds import MOST_LETTERS, need_short_words
from fourthlike.wordsteps import CHANGE, STEADY, all_places, first_place, last_place, places_behind


class Pieces(Paper):
    """The fours of pieces of four words, each with its kind."""

    def __init__(self, kinds, fours):
        Paper.__init__(self, "pieces", kinds, fours)
        self.kinds, self.fours = self.parts


class Unlaid(Denial):
    """A closed lot of places of four without the last one."""

    def __init__(self, places):
        Denial.__init__(self, "unlaid", places)
        self.places = self.parts[0]


class Laid(Paper):
    """For each letter of a word the index at which it stands in another one."""

    def __init__(self, indexes):
        Paper.__init__(self, "laid", indexes)
        self.indexes = self.parts[0]


class NotLaid(Denial):
    """The index, in a word, of a letter that finds no place in another one."""

    def __init__(self, at):
        Denial.__init__(self, "notlaid", at)
        self.at = self.parts[0]


def need_four(a, b, c, d):
    """Raises an error unless these are words of at most 12 letters."""
    need_short_words([("a", a), ("b", b), ("c", c), ("d", d)], MOST_LETTERS)


def is_like_words(a, b, c, d):
    """Whether a : b = c : d."""
    need_four(a, b, c, d)
    words = (a, b, c, d)
    return last_place(words) in all_places(words)


def reached_by(words, begins, pairs, earlier):
    """A dict of the places that one four of a kind, of these pairs, leads to, each with its begin.

    Ways may cross places that the same turn reaches by the other kind, not those of earlier turns.
    """
    found = {}
    waiting = [(begin, begin) for begin in begins]
    while len(waiting) > 0:
        place, begin = waiting.pop()
        for after in places_behind(words, place, pairs):
            if after not in earlier and after not in found:
                found[after] = begin
                waiting.append((after, begin))
    return found


def begins_of(words):
    """A dict of all places that can be reached, each with the last four on a way of as few as can be.

    The four is told as its kind and the place at which it begins. Two fours of one kind, one behind
    the other, are one: so turn by turn each place is reached with as few as can be.
    """
    begins = [first_place(words)]
    found = {begins[0]: None}
    while len(begins) > 0:
        steady = reached_by(words, begins, STEADY, found)
        change = reached_by(words, begins, CHANGE, found)
        for place in steady:
            found[place] = ("steady", steady[place])
        for place in change:
            found.setdefault(place, ("change", change[place]))
        begins = list(steady) + [place for place in change if place not in steady]
    return found


def four_between(words, begin, end):
    """What is read of each word between two places."""
    return tuple([word[start:stop] for word, start, stop in zip(words, begin, end)])


def pieces_of(a, b, c, d):
    """A Pieces with as few fours as can be, or an Unlaid."""
    need_four(a, b, c, d)
    words = (a, b, c, d)
    begins = begins_of(words)
    place = last_place(words)
    if place not in begins:
        return Unlaid(sorted(begins))
    kinds = []
    fours = []
    while begins[place] is not None:
        kind, begin = begins[place]
        kinds.append(kind)
        fours.append(four_between(words, begin, place))
        place = begin
    return Pieces(kinds[::-1], fours[::-1])


def laid_early(a, b):
    """The indexes at which letters of a stand in b, as early as can be, up to the first without a place."""
    found = []
    behind = 0
    for letter in a:
        index = b.find(letter, behind)
        if index < 0:
            break
        found.append(index)
        behind = index + 1
    return found


def can_be_laid(a, b):
    """The Laid of a in b, each letter as early as it can stand, or the NotLaid."""
    need_short_words([("a", a), ("b", b)], MOST_LETTERS)
    indexes = laid_early(a, b)
    return Laid(indexes) if len(indexes) == len(a) else NotLaid(len(indexes))
