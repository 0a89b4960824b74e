"""Whether papers on words are right."""

from fourthlike.checks import is_just, is_within, is_word
from fourthlike.fourthwords import NoWord
from fourthlike.layings import Laid, NotLaid, Pieces, Unlaid, laid_early
from fourthlike.wordneeds import need_words
from fourthlike.wordsteps import CHANGE, STEADY, first_place, last_place, steps_from


def is_place_in(words, value):
    """Whether the value tells how many letters of each of the words are read."""
    if not isinstance(value, tuple) or len(value) != len(words):
        return False
    return all([is_within(many, 0, len(word)) for many, word in zip(value, words)])


def is_closed_without_last(words, places):
    """Whether the value is a closed lot of places of four, or of spots, without the last one."""
    if not isinstance(places, tuple) or not all([is_place_in(words, place) for place in places]):
        return False
    there = {place: True for place in places}
    if first_place(words) not in there or last_place(words) in there:
        return False
    return all([after in there for place in places for after in steps_from(words, place)])


def is_four_of_kind(kind, four):
    """Whether the value is a four of pieces of this kind, any value."""
    if not isinstance(four, tuple) or len(four) != 4 or not all([is_word(piece) for piece in four]):
        return False
    if is_just(kind, "steady"):
        return all([four[one] == four[other] for one, other in STEADY])
    return is_just(kind, "change") and all([four[one] == four[other] for one, other in CHANGE])


def are_pieces(words, kinds, fours):
    """Whether these values are kinds and fours that make up the four words."""
    if not isinstance(kinds, tuple) or not isinstance(fours, tuple) or len(kinds) != len(fours):
        return False
    if not all([is_four_of_kind(kind, four) for kind, four in zip(kinds, fours)]):
        return False
    return all(["".join([four[at] for four in fours]) == word for at, word in enumerate(words)])


def shows_pieces(a, b, c, d, value):
    """Whether value is a Pieces that makes up the four words, or a right Unlaid."""
    need_words([("a", a), ("b", b), ("c", c), ("d", d)])
    if type(value) is Pieces:
        return are_pieces((a, b, c, d), value.kinds, value.fours)
    return type(value) is Unlaid and is_closed_without_last((a, b, c, d), value.places)


def are_indexes(a, b, indexes):
    """Whether the value has ascending indexes at which the letters of a stand in b."""
    if not isinstance(indexes, tuple) or len(indexes) != len(a):
        return False
    least = 0
    for letter, index in zip(a, indexes):
        if not is_within(index, least, len(b) - 1) or b[index] != letter:
            return False
        least = index + 1
    return True


def shows_laid(a, b, value):
    """Whether value is a Laid of any right indexes, or the NotLaid of the first letter without a place."""
    need_words([("a", a), ("b", b)])
    if type(value) is Laid:
        return are_indexes(a, b, value.indexes)
    many = len(laid_early(a, b))
    return type(value) is NotLaid and many < len(a) and is_just(value.at, many)


def shows_no_word(a, b, c, value):
    """Whether value is a right NoWord."""
    need_words([("a", a), ("b", b), ("c", c)])
    return type(value) is NoWord and is_closed_without_last((a, b, c), value.spots)
