"""The items of texts, read one by one; BadText tells the first that cannot stand."""

from fourthlike.checks import is_figure, is_within
from fourthlike.errors import BadText

MOST_FIGURES = 60


def items_of(text):
    """The items of a text; what is no string has none."""
    if not isinstance(text, str):
        raise BadText(0, 0)
    return text.split(" ")


def item_at(items, at):
    """The item with this index; one that is missing has the number of items as its index."""
    if at >= len(items):
        raise BadText(0, len(items))
    return items[at]


def need_sign(items, at, sign):
    """Raises BadText unless just this sign stands there."""
    if item_at(items, at) != sign:
        raise BadText(0, at)


def need_end(items, at):
    """Raises BadText if an item stands there or behind."""
    if at < len(items):
        raise BadText(0, at)


def number_of(item):
    """The integer from 0 on that the item writes, None if it writes none."""
    if not 1 <= len(item) <= MOST_FIGURES or not all([is_figure(sign) for sign in item]):
        return None
    if item[0] == "0" and len(item) > 1:
        return None
    return int(item)


def number_at(items, at, least, most):
    """The integer within these bounds that stands there."""
    number = number_of(item_at(items, at))
    if not is_within(number, least, most):
        raise BadText(0, at)
    return number
