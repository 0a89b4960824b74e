"""Proportions, fourths, prices and nearest rows."""

import itertools

from fourthlike.errors import BadRow, Misfit
from fourthlike.likenesses import Fourth, Nearest, NoFourth, fourth_of, is_proportion, kinds_at, nearest, price
from fourthlike.rows import Row
from tests.helpers import NO_NUMBERS, Case

THREES = [Row(3, places) for places in itertools.product(range(3), repeat=2)]
TWOS = [Row(2, places) for places in itertools.product(range(2), repeat=3)]


def kind_of(w, x, y, z):
    """The kind at a place, by the words of the document."""
    if w == x == y == z:
        return "both"
    if w == x and y == z:
        return "steady"
    return "change" if w == y and x == z else None


def least_changes(four, marks):
    """The least number of marks that must be changed at a place for a proportion."""
    return min(sum(one != other for one, other in zip(four, told)) for told in
               itertools.product(range(marks), repeat=4) if kind_of(*told) is not None)


class LikenessesTest(Case):
    def test_proportions_and_kinds(self):
        for a, b, c, d in itertools.product(THREES, repeat=4):
            wanted = tuple(kind_of(*four) for four in zip(a.places, b.places, c.places, d.places))
            self.assertEqual(kinds_at(a, b, c, d), wanted)
            self.assertIs(is_proportion(a, b, c, d), None not in wanted)

    def test_what_follows_from_a_proportion(self):
        found = [four for four in itertools.product(TWOS, repeat=4) if is_proportion(*four)]
        self.assertEqual(len(found), 6 ** 3)
        for a, b, c, d in found:
            self.assertTrue(is_proportion(b, a, d, c) and is_proportion(c, d, a, b) and is_proportion(a, c, b, d))
            for w, x, y, z in found:
                if (w, x) == (c, d):
                    self.assertTrue(is_proportion(a, b, y, z))
            sums = [w + z == x + y for w, x, y, z in zip(a.places, b.places, c.places, d.places)]
            self.assertTrue(all(sums))

    def test_fourths(self):
        for a, b, c in itertools.product(THREES, repeat=3):
            wanted = [d for d in THREES if is_proportion(a, b, c, d)]
            found = fourth_of(a, b, c)
            self.assertEqual(fourth_of(a, c, b), found)
            if wanted:
                self.assertEqual([found], [Fourth(d) for d in wanted])
                self.assertIs(type(found), Fourth)
                self.assertEqual(fourth_of(found.row, b, c), Fourth(a))
            else:
                place = [at for at in range(2) if a.places[at] not in (b.places[at], c.places[at])][0]
                self.assertEqual(found, NoFourth(place))
                self.assertIs(bool(found), False)

    def test_prices(self):
        for a, b, c, d in itertools.product(THREES[1:6], THREES, THREES[::2], THREES):
            fours = zip(a.places, b.places, c.places, d.places)
            self.same(price(a, b, c, d), sum(least_changes(four, 3) for four in fours))
        for four in itertools.product(range(4), repeat=4):
            self.same(price(*[Row(4, [mark]) for mark in four]), least_changes(four, 4))

    def test_prices_of_turned_and_chained(self):
        rows = [Row(4, [mark]) for mark in range(4)]
        for a, b, c, d in itertools.product(rows, repeat=4):
            told = price(a, b, c, d)
            self.assertTrue(told == price(b, a, d, c) == price(c, d, a, b) == price(a, c, b, d))
            for e, f in itertools.product(rows, repeat=2):
                self.assertLessEqual(price(a, b, e, f), told + price(c, d, e, f))

    def test_nearest_rows(self):
        for a, b, c in itertools.product(THREES, repeat=3):
            prices = [price(a, b, c, d) for d in THREES]
            rows = [d.places for d, one in zip(THREES, prices) if one == min(prices)]
            choices = tuple(tuple(sorted({row[at] for row in rows})) for at in range(2))
            self.assertEqual(nearest(a, b, c), Nearest(min(prices), choices))
            self.assertEqual(sorted(itertools.product(*choices)), sorted(rows))

    def test_a_nearest_row_where_the_second_is_the_third(self):
        rows = Row(4, [0, 1, 3]), Row(4, [1, 1, 2]), Row(4, [1, 2, 2])
        self.same(nearest(*rows).parts, (2, ((1,), (2,), (2,))))
        self.same(nearest(*rows).price, 2)
        self.same(nearest(*rows).choices, ((1,), (2,), (2,)))

    def test_renamed_and_moved_alike(self):
        for a, b, c in itertools.product(THREES, repeat=3):
            renamed = [row.renamed([2, 0, 1]) for row in (a, b, c)]
            found = fourth_of(a, b, c)
            if type(found) is Fourth:
                self.assertEqual(fourth_of(*renamed), Fourth(found.row.renamed([2, 0, 1])))
            else:
                self.assertEqual(fourth_of(*renamed), found)
            moved = [row.moved([1, 0]) for row in (a, b, c)]
            self.assertEqual(nearest(*moved), Nearest(nearest(a, b, c).price, nearest(a, b, c).choices[::-1]))

    def test_what_is_no_row(self):
        row = Row(2, [0, 1])
        for call, parts in ((is_proportion, "abcd"), (kinds_at, "abcd"), (price, "abcd"), (fourth_of, "abc"),
                            (nearest, "abc")):
            for at, part in enumerate(parts):
                for value in NO_NUMBERS + ([0, 1], (0, 1), "2 : 0 1"):
                    rows = [row] * at + [value] * (len(parts) - at)
                    self.raised(BadRow(part), call, *rows)
                    if at < len(parts) - 1:
                        self.raised(BadRow(part), call, *(rows[:at + 1] + [Row(3, [0])] * (len(parts) - at - 1)))

    def test_rows_that_do_not_fit(self):
        row = Row(2, [0, 1])
        for call, many in ((is_proportion, 4), (kinds_at, 4), (price, 4), (fourth_of, 3), (nearest, 3)):
            for at in range(many):
                for other, part in ((Row(3, [0, 1]), "marks"), (Row(2, [0]), "places"), (Row(3, [0]), "marks")):
                    rows = [row] * many
                    rows[at] = other
                    self.raised(Misfit(part), call, *rows)
            self.raised(Misfit("marks"), call, *([row, Row(2, [0])] + [Row(3, [0])] * (many - 2)))
            self.raised(BadRow("abcd"[many - 1]), call, *([row] + [Row(3, [0])] * (many - 2) + [None]))
