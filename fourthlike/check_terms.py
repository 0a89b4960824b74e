"""Whether papers on terms are right."""

from fourthlike.checks import is_within
from fourthlike.choices import many_choices
from fourthlike.patterns import Pattern
from fourthlike.termfourths import Bearing, NoTerm, shared_for_fourth
from fourthlike.terms import Term, inner_terms, need_terms


def is_made(pattern, filling, term):
    """Whether the value is a pattern that this filling, any value, makes the term."""
    if not isinstance(pattern, Pattern) or not isinstance(filling, tuple):
        return False
    if not all([isinstance(one, Term) for one in filling]):
        return False
    return pattern.covers(term) == filling


def shows_bearing(a, b, c, d, value):
    """Whether value is a Bearing of patterns and fillings that bear a : b = c : d, whichever they are."""
    need_terms([("a", a), ("b", b), ("c", c), ("d", d)])
    if type(value) is not Bearing:
        return False
    made = [is_made(value.p, value.mine, a), is_made(value.q, value.mine, b)]
    return all(made) and is_made(value.p, value.its, c) and is_made(value.q, value.its, d)


def shows_no_term(a, b, c, value):
    """Whether value is a right NoTerm, of any such hole, or of None."""
    firsts = shared_for_fourth(a, b, c).mine
    if type(value) is not NoTerm:
        return False
    inner = inner_terms(b)
    if is_within(value.hole, 0, len(firsts) - 1):
        return firsts[value.hole] not in inner
    if value.hole is not None or any([first not in inner for first in firsts]):
        return False
    return many_choices(b, firsts) == 0
