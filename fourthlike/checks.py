"""What any value is: an integer, a name, a word, a row of integers."""

MOST_SIGNS = 12


def is_integer(value):
    """Whether the value is an integer; True and False are none."""
    return isinstance(value, int) and not isinstance(value, bool)


def is_within(value, least, most):
    """Whether the value is an integer from least to most; None is no bound."""
    if not is_integer(value):
        return False
    return (least is None or value >= least) and (most is None or value <= most)


def is_letter(sign):
    """Whether the sign is a small letter from a to z."""
    return "a" <= sign <= "z"


def is_figure(sign):
    """Whether the sign is a figure from 0 to 9."""
    return "0" <= sign <= "9"


def is_name(value):
    """Whether the value is a name."""
    if not isinstance(value, str) or not 1 <= len(value) <= MOST_SIGNS:
        return False
    return is_letter(value[0]) and all([is_letter(sign) or is_figure(sign) for sign in value])


def is_word(value):
    """Whether the value is a word."""
    return isinstance(value, str) and all([is_letter(sign) for sign in value])


def is_list(value):
    """Whether the value is a list or a tuple."""
    return isinstance(value, (list, tuple))


def is_row(value):
    """Whether the value is a row of integers."""
    return is_list(value) and all([is_integer(one) for one in value])


def are_names(value):
    """Whether the value is a list of one name or more."""
    return is_list(value) and len(value) > 0 and all([is_name(name) for name in value])


def are_lists_of(value, many):
    """Whether the value is a list of lists of so many values each."""
    return is_list(value) and all([is_list(one) and len(one) == many for one in value])


def are_ascending(value, most):
    """Whether the value is a tuple of ascending integers from 0 to most, each once; None is no bound."""
    if not isinstance(value, tuple) or not all([is_within(number, 0, most) for number in value]):
        return False
    return all([number < after for number, after in zip(value, value[1:])])


def is_order_of(value, many):
    """Whether the value is a list of all integers below many, each once."""
    return is_row(value) and sorted(value) == list(range(many))


def first_twice(values):
    """The first of the values that equals one ahead of it, None if there is none.

    They are integers, strings, or tuples of such.
    """
    seen = set()
    for value in values:
        if value in seen:
            return value
        seen.add(value)
    return None


def is_just(value, wanted):
    """Whether the value is the wanted number, string, None, or tuple of such.

    For Python 1 is True; in a paper True and False stand for no number.
    """
    if isinstance(wanted, tuple):
        if not isinstance(value, tuple) or len(value) != len(wanted):
            return False
        return all([is_just(one, other) for one, other in zip(value, wanted)])
    if isinstance(wanted, str):
        return isinstance(value, str) and value == wanted
    if is_integer(wanted):
        return is_integer(value) and value == wanted
    return value is None and wanted is None


def is_just_paper(value, paper):
    """Whether the value is just this paper, whose parts are as is_just tells."""
    return type(value) is type(paper) and is_just(value.parts, paper.parts)
