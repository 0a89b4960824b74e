"""Whether papers on rows of marks are right."""

from fourthlike.checks import is_just, is_within
from fourthlike.closings import closing, distinct_places, fourth_places, least_leak
from fourthlike.likenesses import Fourth, Nearest, NoFourth, fourth_of, nearest
from fourthlike.lots import Closed, Leak
from fourthlike.makers import Makers, fewest_making, whole_lot
from fourthlike.rowneeds import need_lot, need_rows
from fourthlike.rows import Row


def is_row_like(value, row):
    """Whether the value is a Row with as many marks and places as this one."""
    return isinstance(value, Row) and value.marks == row.marks and len(value) == len(row)


def are_rows_like(value, row):
    """Whether the value is a tuple of such Rows."""
    return isinstance(value, tuple) and all([is_row_like(one, row) for one in value])


def is_triple_below(value, most):
    """Whether the value is a triple of numbers below most."""
    if not isinstance(value, tuple) or len(value) != 3:
        return False
    return all([is_within(number, 0, most - 1) for number in value])


def fourth_at_numbers(places, triple):
    """The fourth of the rows with these three numbers, None if they have none."""
    i, j, k = triple
    return fourth_places(places[i], places[j], places[k])


def shows_fourth(a, b, c, value):
    """Whether value is a right Fourth, or a NoFourth of any such place."""
    found = fourth_of(a, b, c)
    if type(value) is Fourth:
        return type(found) is Fourth and isinstance(value.row, Row) and value.row == found.row
    if type(value) is not NoFourth or not is_within(value.place, 0, len(a) - 1):
        return False
    mark = a.places[value.place]
    return mark != b.places[value.place] and mark != c.places[value.place]


def shows_nearest(a, b, c, value):
    """Whether value is the Nearest with just this price and these choices."""
    need_rows([("a", a), ("b", b), ("c", c)])
    return type(value) is Nearest and is_just(value.parts, nearest(a, b, c).parts)


def are_reasons(value, places, told):
    """Whether value has the reasons of the rows with these places, the first of them told."""
    if not isinstance(value, tuple) or len(value) != len(places):
        return False
    if any([reason is not None for reason in value[:told]]):
        return False
    for number in range(told, len(places)):
        if not is_triple_below(value[number], number):
            return False
        if fourth_at_numbers(places, value[number]) != places[number]:
            return False
    return True


def is_right_closed(rows, value):
    """Whether value is a right Closed of these rows, which fit together."""
    if type(value) is not Closed or not are_rows_like(value.rows, rows[0]):
        return False
    told = list(distinct_places(rows))
    places = [row.places for row in value.rows]
    if places[:len(told)] != told or len(distinct_places(value.rows)) != len(places):
        return False
    return are_reasons(value.reasons, places, len(told)) and least_leak(places) is None


def shows_closed(rows, value):
    """Whether value is a right Closed of rows, in whatever order the others stand."""
    need_lot(rows)
    return is_right_closed(rows, value)


def shows_leak(rows, value):
    """Whether value is a right Leak, of whichever triple."""
    need_lot(rows)
    if type(value) is not Leak or not is_triple_below(value.numbers, len(rows)):
        return False
    if not is_row_like(value.row, rows[0]) or value.row.places in distinct_places(rows):
        return False
    return fourth_at_numbers([row.places for row in rows], value.numbers) == value.row.places


def shows_makers(rows, value):
    """Whether value is a right Makers, whichever fewest rows."""
    lot = whole_lot(rows)
    if type(value) is not Makers or not are_rows_like(value.rows, rows[0]):
        return False
    some = [row.places for row in value.rows]
    if len(some) != len(fewest_making(lot)) or sorted(distinct_places(value.rows)) != some:
        return False
    found, _ = closing(some)
    return sorted(found) == lot and is_right_closed(value.rows, value.closed)
