"""The ask lines of a desk."""

from fourthlike.answers import Fits, Open, quarrel, word_of
from fourthlike.asking import rows_to_ask
from fourthlike.bits import need_bits
from fourthlike.checks import is_within
from fourthlike.deeds import by_deeds
from fourthlike.desk_lines import ASKS, read_one_of
from fourthlike.doings import fourth_by_places, is_by_places
from fourthlike.errors import Misfit, NoName, Nothing
from fourthlike.fourthwords import fourths_of_words
from fourthlike.layings import is_like_words
from fourthlike.likely import Clash, likely
from fourthlike.likenesses import fourth_of, is_proportion
from fourthlike.orders import Order
from fourthlike.rows import Row
from fourthlike.tables import names_told, need_table
from fourthlike.told import Told
from fourthlike.weights import follows, times_of

NONE = "-"


def joined_items(items):
    """The items with blanks between, or what stands where there are none."""
    return " ".join(items) if len(items) > 0 else NONE


def yes_or_no(truth):
    """What stands for a truth."""
    return "yes" if truth else "no"


def kind_of(thing):
    """The word for the kind of the thing."""
    if isinstance(thing, Row):
        return "row"
    return "order" if isinstance(thing, Order) else "word"


def things_under(table, names):
    """The list of the things under these names, which are of one kind."""
    things = [table.thing(name) for name in names]
    if any([kind_of(thing) != kind_of(things[0]) for thing in things]):
        raise Misfit("kinds")
    return things


def answer_names(table, told):
    """The names of the things."""
    return joined_items(table.names)


def answer_show(table, told):
    """The kind and the text of the thing."""
    thing = table.thing(told[0])
    return kind_of(thing) + " " + str(thing)


def answer_like(table, told):
    """Whether the things are a proportion."""
    a, b, c, d = things_under(table, told)
    kind = kind_of(a)
    if kind == "row":
        return yes_or_no(is_proportion(a, b, c, d))
    return yes_or_no(is_like_words(a, b, c, d) if kind == "word" else is_by_places(a, b, c, d))


def answer_fourth(table, told):
    """All fourths of the things."""
    a, b, c = things_under(table, told)
    kind = kind_of(a)
    if kind == "row":
        paper = fourth_of(a, b, c)
        return str(paper.row) if paper else NONE
    if kind == "order":
        return str(fourth_by_places(a, b, c))
    words = fourths_of_words(a, b, c)
    return " / ".join(words) if len(words) > 0 else NONE


def answer_fours(table, told):
    """How many fours there are."""
    return str(len(table.fours))


def answer_cases(table, told):
    """How many cases there are."""
    return str(len(table.cases))


def answer_four(table, told):
    """The names of the four."""
    if not is_within(told[0], 0, len(table.fours) - 1):
        raise NoName(told[0])
    return " ".join(table.fours[told[0]])


def told_with(table, names):
    """The Told of the fours, with those of the names that they lack behind the others."""
    return Told(names_told([*table.fours, names]), table.fours)


def answer_follows(table, told):
    """Whether the four follows."""
    return yes_or_no(follows(told_with(table, told), told))


def answer_times(table, told):
    """The times of the four."""
    paper = times_of(told_with(table, told), told)
    return str(paper.number) if paper else NONE


def answer_deeds(table, told):
    """Whether the four comes by deeds."""
    return yes_or_no(by_deeds(told_with(table, told), told))


def book_of(table):
    """The book of the table; there must be one."""
    if table.book is None:
        raise Nothing()
    return table.book


def answer_is(table, told):
    """Whether the row is forced, and what it is."""
    paper = word_of(book_of(table), told[0])
    return "open" if type(paper) is Open else str(paper.outcome)


def answer_likely(table, told):
    """Which outcome of the row stands by fourths."""
    book = book_of(table)
    need_bits([("row", told[0])], book.places)
    paper = likely(book)
    if type(paper) is Clash:
        return "clash"
    found = [outcome for row, outcome in book.cases if row == told[0]]
    found = found + [outcome for row, outcome, _ in paper.rows if row == told[0]]
    return joined_items([str(outcome) for outcome in found])


def answer_quarrel(table, told):
    """The cases of a quarrel."""
    paper = None if table.book is None else quarrel(table.book)
    if paper is None or type(paper) is Fits:
        return NONE
    return joined_items([str(number) for number in paper.numbers])


def answer_ask(table, told):
    """How many rows more must be asked."""
    return str(len(rows_to_ask(book_of(table))))


ANSWERS = {
    "names": answer_names,
    "show": answer_show,
    "like": answer_like,
    "fourth": answer_fourth,
    "fours": answer_fours,
    "cases": answer_cases,
    "four": answer_four,
    "follows": answer_follows,
    "times": answer_times,
    "deeds": answer_deeds,
    "is": answer_is,
    "likely": answer_likely,
    "quarrel": answer_quarrel,
    "ask": answer_ask,
}


def answer_of(table, line):
    """The answer to an ask line."""
    need_table(table)
    word, *told = read_one_of(line, ASKS)
    action = ANSWERS[word]
    return action(table, told)
