"""What functions on words need of the words that they are passed."""

from fourthlike.checks import is_word
from fourthlike.errors import BadWord, TooMany

MOST_LETTERS = 12
MOST_IN_FOURTHS = 6


def need_words(named):
    """Raises BadWord for the first of the pairs (parameter, value) that is no word."""
    for part, word in named:
        if not is_word(word):
            raise BadWord(part)


def need_short(words, most):
    """Raises TooMany if one of the words has more letters than most."""
    if any([len(word) > most for word in words]):
        raise TooMany("letters", most)


def need_short_words(named, most):
    """Raises an error unless these pairs tell words of at most so many letters."""
    need_words(named)
    need_short([word for _, word in named], most)
