"""The deed lines of a desk."""

from fourthlike.checks import is_within
from fourthlike.desk_lines import DEEDS, read_one_of
from fourthlike.errors import NoCase, NoName, Twice
from fourthlike.nameneeds import need_names, need_once
from fourthlike.tables import need_table, table_of


def put_thing(table, told):
    """The table with this thing under this name behind the others, and how many are kept."""
    name, thing = told
    if name in table.names:
        raise Twice(name)
    things = (*table.things, (name, thing))
    return table_of(things, table.fours, table.cases), len(things)


def drop_thing(table, told):
    """The table without the thing under this name, and how many are kept."""
    need_names(table.names, told)
    at = table.names.index(told[0])
    things = table.things[:at] + table.things[at + 1:]
    return table_of(things, table.fours, table.cases), len(things)


def tell_four(table, told):
    """The table with this four behind the others, and its number."""
    return table_of(table.things, [*table.fours, told], table.cases), len(table.fours)


def left_of(values, numbers):
    """The list of the values but those with these numbers."""
    out = {number: True for number in numbers}
    return [value for number, value in enumerate(values) if number not in out]


def strike_fours(table, told):
    """The table without the fours with these numbers, and how many are left."""
    for number in told:
        if not is_within(number, 0, len(table.fours) - 1):
            raise NoName(number)
    need_once(told)
    fours = left_of(table.fours, told)
    return table_of(table.things, fours, table.cases), len(fours)


def put_case(table, told):
    """The table with this case behind the others, and its number."""
    row, outcome = told
    cases = [(row, outcome)] if table.book is None else table.book.with_case(row, outcome).cases
    return table_of(table.things, table.fours, cases), len(table.cases)


def take_back_cases(table, told):
    """The table without the cases with these numbers, and how many are left."""
    for number in told:
        if not is_within(number, 0, len(table.cases) - 1):
            raise NoCase(number)
    need_once(told)
    cases = left_of(table.cases, told)
    return table_of(table.things, table.fours, cases), len(cases)


ACTIONS = {
    "put": put_thing,
    "drop": drop_thing,
    "tell": tell_four,
    "strike": strike_fours,
    "case": put_case,
    "back": take_back_cases,
}


def changed(table, line):
    """The pair of the table behind a deed line, and the answer."""
    need_table(table)
    word, *told = read_one_of(line, DEEDS)
    action = ACTIONS[word]
    after, number = action(table, told)
    return after, str(number)
