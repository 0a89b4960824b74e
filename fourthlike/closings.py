"""Closed lots of rows, here as tuples of the marks at their places."""

from heapq import heappop, heappush


def fourth_places(a, b, c):
    """The fourth of three rows, None if they have none."""
    found = []
    for x, y, z in zip(a, b, c):
        if x == y:
            found.append(z)
        elif x == z:
            found.append(y)
        else:
            return None
    return tuple(found)


def triples_up_to(last):
    """The triples of numbers with last as the greatest one, as far as they can put in a row.

    With the second and the third exchanged a triple has the same fourth, and
    with the first one equal to another one the fourth is one of the three.
    """
    first = [(last, j, k) for k in range(last) for j in range(k)]
    return first + [(i, j, last) for i in range(last) for j in range(last) if i != j]


def leaks_up_to(rows, last, there):
    """Those of these triples of numbers of rows whose fourth is not there."""
    found = []
    for i, j, k in triples_up_to(last):
        row = fourth_places(rows[i], rows[j], rows[k])
        if row is not None and row not in there:
            found.append((i, j, k))
    return found


def closing(told):
    """The rows of the closed lot of these, each told once, and the reasons of all of them."""
    rows = list(told)
    reasons = [None for _ in told]
    there = {row: True for row in told}
    waiting = []
    for last in range(len(told)):
        for triple in leaks_up_to(rows, last, there):
            heappush(waiting, triple)
    while len(waiting) > 0:
        i, j, k = heappop(waiting)
        row = fourth_places(rows[i], rows[j], rows[k])
        if row in there:
            continue
        there[row] = True
        rows.append(row)
        reasons.append((i, j, k))
        for triple in leaks_up_to(rows, len(rows) - 1, there):
            heappush(waiting, triple)
    return rows, reasons


def least_leak(rows):
    """The least triple of numbers of different rows whose fourth is not among them, or None."""
    there = {row: True for row in rows}
    found = []
    for last in range(len(rows)):
        found.extend(leaks_up_to(rows, last, there))
    return min(found, default=None)


def distinct_places(rows):
    """A dict of the places of each of the Rows, told once, to its first number."""
    found = {}
    for number, row in enumerate(rows):
        found.setdefault(row.places, number)
    return found
