"""The lines of a desk, read."""

from fourthlike.checks import is_word
from fourthlike.errors import BadText
from fourthlike.orders import order_from
from fourthlike.rows import row_from
from fourthlike.texts import item_at, items_of, names_at, need_end, number_at, one_of_at

DEEDS = ("put", "drop", "tell", "strike", "case", "back")
ASKS = (
    "names", "show", "like", "fourth", "fours", "cases", "four", "follows", "times", "deeds", "is", "likely", "quarrel",
    "ask")
KINDS = ("row", "word", "order")
SEVERAL = ("strike", "back")
NAMES = {"drop": 1, "tell": 4, "show": 1, "like": 4, "fourth": 3, "follows": 4, "times": 4, "deeds": 4}
NONE = ("names", "fours", "cases", "quarrel", "ask")
MOST_BITS = 6


def bits_at(items, at):
    """The row of bits whose signs are the item there."""
    item = item_at(items, at)
    if not 1 <= len(item) <= MOST_BITS or not all([sign in ("0", "1") for sign in item]):
        raise BadText(0, at)
    return tuple([int(sign) for sign in item])


def word_from(items, at):
    """The word that is the last item."""
    if not is_word(item_at(items, at)):
        raise BadText(0, at)
    need_end(items, at + 1)
    return items[at]


def thing_from(items, at, kind):
    """The thing of this kind whose text stands there and behind, up to the end."""
    if kind == "row":
        return row_from(items, at)
    return word_from(items, at) if kind == "word" else order_from(items, at)


def read_put(items):
    """What the items of a line that puts a thing stand for."""
    name = names_at(items, 1, 1)[0]
    kind = one_of_at(items, 2, KINDS)
    return "put", name, thing_from(items, 3, kind)


def read_names(items, many):
    """What the items of a line with so many names stand for."""
    names = [names_at(items, at, 1)[0] for at in range(1, many + 1)]
    need_end(items, many + 1)
    return (items[0], *names)


def read_numbers(items):
    """What the items of a line with one or more numbers stand for."""
    return (items[0], *[number_at(items, at, 0, None) for at in range(1, max(len(items), 2))])


def read_rest(items):
    """What the items of a line with one number, with bits, or with its first item alone stand for."""
    if items[0] in NONE:
        need_end(items, 1)
        return (items[0],)
    if items[0] == "four":
        number = number_at(items, 1, 0, None)
        need_end(items, 2)
        return "four", number
    bits = bits_at(items, 1)
    if items[0] != "case":
        need_end(items, 2)
        return items[0], bits
    outcome = number_at(items, 2, 0, 1)
    need_end(items, 3)
    return "case", bits, outcome


def read_line(line):
    """The tuple of the first item of the line, and of what its others stand for."""
    items = items_of(line)
    one_of_at(items, 0, DEEDS + ASKS)
    if items[0] == "put":
        return read_put(items)
    if items[0] in NAMES:
        return read_names(items, NAMES[items[0]])
    return read_numbers(items) if items[0] in SEVERAL else read_rest(items)


def read_one_of(line, words):
    """What read_line returns, for a line that begins with one of these words."""
    one_of_at(items_of(line), 0, words)
    return read_line(line)


def is_ask(line):
    """Whether the value is a string that begins with the first item of an ask line."""
    return isinstance(line, str) and items_of(line)[0] in ASKS
