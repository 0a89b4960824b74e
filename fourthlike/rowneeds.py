"""What functions on rows need of the rows that they are passed."""

from fourthlike.checks import is_list
from fourthlike.errors import BadRow, Misfit, TooMany
from fourthlike.rows import Row

MOST_IN_ALL = 27


def need_fitting(rows):
    """Raises Misfit for unlike numbers of marks, then for unlike numbers of places."""
    if any([row.marks != rows[0].marks for row in rows]):
        raise Misfit("marks")
    if any([len(row) != len(rows[0]) for row in rows]):
        raise Misfit("places")


def need_rows(named):
    """Raises an error unless these pairs (parameter, value) tell rows that fit together."""
    for part, row in named:
        if not isinstance(row, Row):
            raise BadRow(part)
    need_fitting([row for _, row in named])


def many_in_all(row):
    """How many rows there are with as many marks and places."""
    many = 1
    for _ in row.places:
        many = many * row.marks
    return many


def need_lot(rows):
    """Raises an error unless these are rows of a lot out of at most 27 rows."""
    if not is_list(rows) or len(rows) == 0 or any([not isinstance(row, Row) for row in rows]):
        raise BadRow("rows")
    need_fitting(rows)
    if many_in_all(rows[0]) > MOST_IN_ALL:
        raise TooMany("all", MOST_IN_ALL)
