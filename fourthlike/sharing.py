"""What threes of words share: the words that are fourths of each three."""

from fourthlike.layings import is_like_words
from fourthlike.wordlots import WordLots


class Sharing:
    """The fourths of threes of words, and whether fours are a proportion, each reckoned once.

    Fourths are kept as dicts of True, however many there are.
    """

    def __init__(self):
        self._fourths = {}
        self._likes = {}

    def fourths(self, three):
        """The fourths of the three words, a dict of True that goes up."""
        if three not in self._fourths:
            lots = WordLots(three[0], three[1], three[2])
            self._fourths[three] = {word: True for word in lots.ends_from(lots.first_lot())}
        return self._fourths[three]

    def shared(self, threes):
        """The ascending list of the words that each of the threes gives; there is one three at least."""
        others = [self.fourths(three) for three in threes[1:]]
        return [word for word in self.fourths(threes[0]) if all([word in other for other in others])]

    def are_like(self, four):
        """Whether the four words are a proportion."""
        if four not in self._likes:
            self._likes[four] = is_like_words(four[0], four[1], four[2], four[3])
        return self._likes[four]
