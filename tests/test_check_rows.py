"""Whether papers on rows are right."""

import itertools
from unittest.mock import ANY

from fourthlike.check_rows import shows_closed, shows_fourth, shows_leak, shows_makers, shows_nearest
from fourthlike.errors import BadRow, Misfit, TooMany
from fourthlike.likenesses import Fourth, Nearest, NoFourth, fourth_of, nearest
from fourthlike.lots import Closed, Leak, closed_lot, leak_of
from fourthlike.makers import Makers, fewest_makers
from fourthlike.papers import Denial, Paper
from fourthlike.rows import Row
from tests.helpers import NO_NUMBERS, Case
from tests.test_lots import every_row

ROW = Row(2, [0, 1])
NO_PAPERS = NO_NUMBERS + (0, -1, ROW, [ROW], (ROW,), "fourth", Paper("fourth", ROW), Paper("nearest", 0, ((0,), (1,))),
                          Denial("nofourth", 0), Denial("leak", (0, 1, 2), Row(2, [1, 1])), Fourth, Closed, Leak)
LOT = [Row(2, [0, 0]), Row(2, [0, 1]), Row(2, [1, 0])]


class CheckRowsTest(Case):
    def test_fourths(self):
        rows = every_row(3, 2)
        for a, b, c in itertools.product(rows, rows[::2], rows[1::2]):
            found = fourth_of(a, b, c)
            self.is_right(True, shows_fourth, a, b, c, found)
            for d in rows:
                self.is_right(found == Fourth(d), shows_fourth, a, b, c, Fourth(d))
            for place in (0, 1):
                none = a.places[place] not in (b.places[place], c.places[place])
                self.is_right(none, shows_fourth, a, b, c, NoFourth(place))

    def test_bent_fourths(self):
        a, b, c = Row(2, [0, 1]), Row(2, [1, 1]), Row(2, [0, 0])
        self.is_right(True, shows_fourth, a, b, c, Fourth(Row(2, [1, 0])))
        for bad in (Fourth(Row(3, [1, 0])), Fourth(Row(2, [1])), Fourth(Row(2, [1, 0, 0])), Fourth((1, 0)),
                    Fourth(None),
                    Fourth([Row(2, [1, 0])]), Fourth("2 : 1 0"), Leak((0, 1, 2), Row(2, [1, 0])),
                    Nearest(0, [[1], [0]]),
                    Fourth(Fourth(Row(2, [1, 0])))) + NO_PAPERS:
            self.is_right(False, shows_fourth, a, b, c, bad)
        a, b, c = Row(4, [3, 1, 3]), Row(4, [0, 1, 2]), Row(4, [1, 1, 0])
        self.is_right(True, shows_fourth, a, b, c, NoFourth(0))
        self.is_right(True, shows_fourth, a, b, c, NoFourth(2))
        for bad in (1, 3, -1, -3, True, False, None, 0.0, "0", [0], 10 ** 40):
            self.is_right(False, shows_fourth, a, b, c, NoFourth(bad))

    def test_nearest_rows(self):
        rows = every_row(3, 2)
        for a, b, c in itertools.product(rows, rows[::2], rows[1::2]):
            self.is_right(True, shows_nearest, a, b, c, nearest(a, b, c))
        x, y, z = Row(4, [0, 1, 3]), Row(4, [1, 2, 3]), Row(4, [2, 2, 0])
        self.is_right(True, shows_nearest, x, y, z, Nearest(2, [[1, 2], [2], [0]]))
        for bad in (Nearest(1, [[1, 2], [2], [0]]), Nearest(3, [[1, 2], [2], [0]]), Nearest(2, [[2, 1], [2], [0]]),
                    Nearest(2, [[1], [2], [0]]), Nearest(2, [[1, 2, 2], [2], [0]]), Nearest(2, [[True, 2], [2], [0]]),
                    Nearest(2, [[1, 2], [2], [False]]), Nearest(2, [[1, 2], [2]]), Nearest(2, [[1, 2], [2], [0], []]),
                    Nearest(2, [[1, 2], 2, [0]]), Nearest(2.0, [[1, 2], [2], [0]]), Nearest(2, None), Nearest(None, []),
                    Nearest([2], [[1, 2], [2], [0]]), Nearest(2, "ab"), Nearest(2, {0: 1})) + NO_PAPERS:
            self.is_right(False, shows_nearest, x, y, z, bad)
        one = Row(2, [0]), Row(2, [1]), Row(2, [1])
        self.is_right(True, shows_nearest, *one, Nearest(1, [[1]]))
        self.is_right(False, shows_nearest, *one, Nearest(True, [[1]]))

    def test_closed_lots(self):
        rows = [Row(3, row) for row in ([0, 0], [1, 0], [0, 1], [0, 0], [2, 1])]
        found = closed_lot(rows)
        self.is_right(True, shows_closed, rows, found)
        self.is_right(True, shows_closed, tuple(rows), found)
        self.is_right(False, shows_closed, rows[:2], found)
        self.is_right(False, shows_closed, rows[::-1], found)
        self.is_right(True, shows_closed, rows + rows, found)
        for number in range(len(found.rows)):
            left = [row for at, row in enumerate(found.rows) if at != number]
            self.is_right(False, shows_closed, rows, Closed(left, found.reasons))
            reasons = [reason for at, reason in enumerate(found.reasons) if at != number]
            self.is_right(False, shows_closed, rows, Closed(found.rows, reasons))
            self.is_right(False, shows_closed, rows, Closed(left, reasons))
            self.is_right(False, shows_closed, rows, Closed(found.rows + (found.rows[number],),
                                                           found.reasons + (found.reasons[number],)))

    def test_closed_lots_in_other_orders_and_by_other_reasons(self):
        lot = [Row(2, row) for row in ([0, 0, 0], [0, 0, 1], [0, 1, 0], [1, 0, 0])]
        others = {(0, 1, 1): (0, 1, 2), (1, 0, 1): (0, 1, 3), (1, 1, 0): (0, 2, 3)}
        for order in itertools.permutations(others):
            rows = lot + [Row(2, row) for row in order] + [Row(2, [1, 1, 1])]
            reasons = [None] * 4 + [others[row] for row in order] + [(0, 3, 4 + order.index((0, 1, 1)))]
            self.is_right(True, shows_closed, lot, Closed(rows, reasons))
            turned = [reason if reason is None else (reason[0], reason[2], reason[1]) for reason in reasons]
            self.is_right(True, shows_closed, lot, Closed(rows, turned))
            self.is_right(False, shows_closed, lot, Closed(rows[:-1], reasons[:-1]))
            self.is_right(False, shows_closed, lot, Closed(rows[:-2] + rows[-1:], reasons[:-2] + reasons[-1:]))

    def test_bent_closed_lots(self):
        end = Row(2, [1, 1])
        good = [None, None, None, (0, 1, 2)]
        self.is_right(True, shows_closed, LOT, Closed(LOT + [end], good))
        self.is_right(True, shows_closed, LOT, Closed(tuple(LOT) + (end,), good[:3] + [[0, 2, 1]]))
        for reason in (None, (0, 1, 3), (3, 3, 3), (0, 3, 3), (0, True, 2), (False, 1, 2), (0, 1), (0, 1, 2, 0),
                       (1, 0, 2),
                       (0, 1, -2), (-4, 1, 2), (0, 1, 2.0), "012", 0, (0, 1, 4), (0, 1, None), {0: 1}, ((0,), 1, 2),
                       (0, 1, 10 ** 30)):
            self.is_right(False, shows_closed, LOT, Closed(LOT + [end], good[:3] + [reason]))
        for reasons in (None, [], good[:3], good + [None], good[::-1], [None] * 4, [(0, 0, 0)] * 4, "abcd", 4,
                        [(0, 0, 0), None, None, (0, 1, 2)], [None, None, False, (0, 1, 2)], {0: None}):
            self.is_right(False, shows_closed, LOT, Closed(LOT + [end], reasons))
        for rows in (None, [], LOT, LOT + [Row(3, [1, 1])], LOT + [Row(2, [1])], LOT + [(1, 1)], LOT + [None], 4,
                     "abcd",
                     [end] + LOT, [LOT[1], LOT[0], LOT[2], end], LOT + [LOT[0]], LOT + [[end]], end, LOT + [end, end]):
            self.is_right(False, shows_closed, LOT, Closed(rows, good))
        for bad in NO_PAPERS + (Leak((0, 1, 2), end), Makers(LOT, closed_lot(LOT)), closed_lot(LOT[:2]),
                                Paper("closed", tuple(LOT) + (end,), good)):
            self.is_right(False, shows_closed, LOT, bad)
        self.is_right(False, shows_closed, LOT[:1], Closed(LOT[:1], [None] * 2))
        self.is_right(False, shows_closed, LOT[:2], Closed(LOT, [None] * 3))
        self.is_right(False, shows_closed, LOT[:2], Closed(LOT, [None, None, (0, 1, 1)]))

    def test_leaks(self):
        end = Row(2, [1, 1])
        rows = [LOT[0], LOT[1], LOT[0], LOT[2]]
        self.is_right(True, shows_leak, rows, leak_of(rows))
        for numbers in itertools.product(range(-1, 5), repeat=3):
            wanted = all(0 <= number < 4 for number in numbers) and fourth_of(
                *[rows[number] for number in numbers]) == Fourth(end)
            self.is_right(wanted, shows_leak, rows, Leak(numbers, end))
            self.is_right(False, shows_leak, rows + [end], Leak(numbers, end))
            self.is_right(False, shows_leak, rows, Leak(numbers, LOT[1]))
        for numbers in (None, (), (0, 1), (0, True, 3), (False, 1, 3), (0, 1, 3, 0), "013", (0, 1.0, 3), ((0,), 1, 3),
                        0,
                        (0, 1, 10 ** 30)):
            self.is_right(False, shows_leak, rows, Leak(numbers, end))
        for row in (None, (1, 1), Row(3, [1, 1]), Row(2, [1]), Row(2, [1, 1, 1]), [end], 0):
            self.is_right(False, shows_leak, rows, Leak((0, 1, 3), row))
        for bad in NO_PAPERS[:-4] + (None, closed_lot(rows), Fourth(end), NoFourth(0)):
            self.is_right(False, shows_leak, rows, bad)
        self.is_right(False, shows_leak, rows, Denial("leak", (0, 1, 3), end))

    def test_makers(self):
        square = LOT + [Row(2, [1, 1])]
        found = fewest_makers(square)
        self.is_right(True, shows_makers, square, found)
        for some in itertools.combinations(square, 3):
            rows = sorted(some, key=lambda row: row.places)
            good = Makers(rows, closed_lot(rows))
            self.is_right(True, shows_makers, square, good)
            self.is_right(False, shows_makers, LOT[:2], good)
            for order in list(itertools.permutations(rows))[1:]:
                self.is_right(False, shows_makers, square, Makers(order, closed_lot(order)))
                self.is_right(False, shows_makers, square, Makers(rows, closed_lot(order)))
        for rows in (square, square[:2], square[:1], [square[0]] * 3, [], [square[0], square[0], square[1], square[2]]):
            self.is_right(False, shows_makers, square, Makers(rows, closed_lot(rows or square)))
        other = closed_lot(LOT).rows[:3], (None, None, None)
        for closed in (None, Closed(*other), closed_lot(square), closed_lot(square[1:]), 4, found):
            self.is_right(False, shows_makers, square, Makers(LOT, closed))
        good = closed_lot(LOT)
        for rows in (None, 3, "abc", [None] * 3, [(0, 0), (0, 1), (1, 0)], LOT + [None], LOT[:2] + [Row(3, [1, 0])],
                     LOT[:2] + [Row(2, [1])], LOT[0], [LOT]):
            self.is_right(False, shows_makers, square, Makers(rows, good))
        for bad in NO_PAPERS + (good, Paper("makers", LOT, good)):
            self.is_right(False, shows_makers, square, bad)

    def test_makers_of_one_and_of_fewest_rows(self):
        row = Row(3, [2, 1])
        self.is_right(True, shows_makers, [row, row], Makers([row], Closed([row], [None])))
        two = [Row(3, [0, 1]), row]
        self.is_right(True, shows_makers, two[::-1], Makers(two, Closed(two, [None, None])))
        self.is_right(False, shows_makers, two, Makers([row], Closed([row], [None])))
        cube = every_row(2, 3)
        found = self.shortly(fewest_makers, cube)
        self.assertEqual(len(found.rows), 4)
        self.assertTrue(self.shortly(shows_makers, cube, found))
        flat = cube[:4]
        self.is_right(False, shows_makers, cube, Makers(flat, closed_lot(flat)))
        five = sorted(list(found.rows) + [Row(2, [1, 1, 1])], key=lambda row: row.places)
        self.is_right(False, shows_makers, cube, Makers(five, closed_lot(five)))

    def test_errors_of_the_other_arguments(self):
        row = Row(2, [0, 1])
        for call in (shows_fourth, shows_nearest):
            for value in (None, Fourth(row), NoFourth(0), Nearest(0, [[0], [1]])):
                self.raised(BadRow("a"), call, None, None, None, value)
                self.raised(BadRow("b"), call, row, (0, 1), None, value)
                self.raised(BadRow("c"), call, row, Row(3, [0]), None, value)
                self.raised(Misfit("marks"), call, row, Row(2, [0]), Row(3, [0]), value)
                self.raised(Misfit("places"), call, row, row, Row(2, [0]), value)
        for call in (shows_closed, shows_leak, shows_makers):
            for value in (None, closed_lot([row]), Leak((0, 0, 0), row), Makers([row], closed_lot([row]))):
                for rows in (None, [], (), [row, 1], row, "ab"):
                    self.raised(BadRow("rows"), call, rows, value)
                self.raised(Misfit("marks"), call, [row, Row(2, [0]), Row(3, [0])], value)
                self.raised(Misfit("places"), call, [row, Row(2, [0])], value)
                self.raised(TooMany("all", 27), call, [Row(2, [0] * 5)], value)
        self.raised(TooMany("rows", 8), shows_makers, every_row(3, 2), None)
        self.is_right(False, shows_closed, every_row(3, 3), None)

    def test_parts_that_are_equal_to_anything(self):
        end = Row(2, [1, 1])
        for value in (Fourth(ANY), NoFourth(ANY)):
            self.is_right(False, shows_fourth, *LOT, value)
        self.is_right(False, shows_fourth, end, LOT[0], LOT[1], NoFourth(ANY))
        for value in (Nearest(ANY, [[1], [1]]), Nearest(0, ANY), Nearest(0, [ANY, [1]]), Nearest(0, [[ANY], [1]])):
            self.is_right(False, shows_nearest, *LOT, value)
        for value in (Closed(ANY, ANY), Closed(LOT + [ANY], [None, None, None, (0, 1, 2)]), Closed(LOT + [end], ANY),
                      Closed(LOT + [end], [None, None, None, ANY]),
                      Closed(LOT + [end], [None, None, None, (0, 1, ANY)])):
            self.is_right(False, shows_closed, LOT, value)
        for value in (Leak(ANY, end), Leak((0, 1, 2), ANY), Leak((0, ANY, 2), end)):
            self.is_right(False, shows_leak, LOT, value)
        for value in (Makers(ANY, ANY), Makers(LOT, ANY), Makers([ANY] * 3, closed_lot(LOT))):
            self.is_right(False, shows_makers, LOT, value)

    def test_short_answers(self):
        rows = every_row(3, 3)
        self.assertTrue(self.shortly(shows_closed, rows, Closed(rows, [None] * 27)))
        self.assertFalse(self.shortly(shows_closed, rows, Closed(rows * 500, [None] * 13500)))
        self.assertTrue(self.shortly(shows_leak, rows[:-1] * 50, leak_of(rows[:-1])))
