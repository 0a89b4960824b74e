"""The fourth of three words by endings."""

from fourthlike.wordneeds import MOST_LETTERS, need_short_words


def shared_begin(a, b):
    """How many letters the longest begin has that two words share."""
    many = 0
    while many < len(a) and many < len(b) and a[many] == b[many]:
        many += 1
    return many


def ends_alike(a, b, c):
    """The fourth by endings, None if c does not end with what is left of a."""
    need_short_words([("a", a), ("b", b), ("c", c)], MOST_LETTERS)
    many = shared_begin(a, b)
    if not c.endswith(a[many:]):
        return None
    return c[:len(c) - len(a[many:])] + b[many:]
