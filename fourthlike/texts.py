"""The items of texts, read one by one; BadText tells the first that cannot stand."""

from fourthlike.checks import is_figure, is_name, is_within
from fourthlike.errors import BadText

MOST_FIGURES = 60


def items_of(text):
    """The items of a text; what is no string has none."""
    if not isinstance(text, str):
        raise BadText(0, 0)
    return text.split(" ")


def item_at(items, at):
    """The item with this index; one that is missing has the number of items as its index."""
    if at >= len(items):
        raise BadText(0, len(items))
    return items[at]


def need_sign(items, at, sign):
    """Raises BadText unless just this sign stands there."""
    if item_at(items, at) != sign:
        raise BadText(0, at)


def need_end(items, at):
    """Raises BadText if an item stands there or behind."""
    if at < len(items):
        raise BadText(0, at)


def behind_sign(items, at, sign, many):
    """The index behind the sign that must stand there, if many stand ahead; the index itself if none does."""
    if many == 0:
        return at
    need_sign(items, at, sign)
    return at + 1


def with_sign_between(lists, sign):
    """The items of all these lists, one list behind the other, with the sign between two of them."""
    return [item for one in lists for item in [sign, *one]][1:]


def number_of(item):
    """The integer from 0 on that the item writes, None if it writes none."""
    if not 1 <= len(item) <= MOST_FIGURES or not all([is_figure(sign) for sign in item]):
        return None
    if item[0] == "0" and len(item) > 1:
        return None
    return int(item)


def number_at(items, at, least, most):
    """The integer within these bounds that stands there."""
    number = number_of(item_at(items, at))
    if not is_within(number, least, most):
        raise BadText(0, at)
    return number


def names_at(items, at, most):
    """The names that stand there and behind, at most so many; one must stand."""
    names = []
    for item in items[at:at + most]:
        if not is_name(item):
            break
        names.append(item)
    if len(names) == 0:
        raise BadText(0, at)
    return names


def different_names_at(items, at, most):
    """The names that stand there and behind, at most so many, none a second time; one must stand."""
    names = names_at(items, at, most)
    for number, name in enumerate(names):
        if name in names[:number]:
            raise BadText(0, at + number)
    return names


def ascending_names(items, most):
    """The names with which the items begin, each greater than the one ahead, at most so many; one must stand."""
    names = names_at(items, 0, most)
    for at in range(1, len(names)):
        if names[at] <= names[at - 1]:
            raise BadText(0, at)
    return names


def one_of_at(items, at, names):
    """The name that stands there, one of these."""
    name = item_at(items, at)
    if name not in names:
        raise BadText(0, at)
    return name


def pair_at(items, at, names, ahead):
    """The pair of these names that stands there, greater than the pair ahead, which is () if there is none."""
    first = one_of_at(items, at, names)
    if (first,) < ahead[:1]:
        raise BadText(0, at)
    second = one_of_at(items, at + 1, names)
    if (first, second) <= ahead:
        raise BadText(0, at + 1)
    return first, second
