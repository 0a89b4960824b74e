"""Rows of marks."""

import itertools

from fourthlike.errors import BadNumber, BadRow, BadText
from fourthlike.rows import Row
from tests.helpers import NO_LISTS, NO_NUMBERS, ODD_VALUES, Case


class RowsTest(Case):
    def test_marks_and_places_at_their_bounds(self):
        for marks in (2, 3, 4):
            for many in (1, 6):
                row = Row(marks, [marks - 1] * many)
                self.same(row.marks, marks)
                self.same(row.places, (marks - 1,) * many)
                self.assertEqual(len(row), many)
        self.same(Row(marks=2, places=(0, 1)).places, (0, 1))

    def test_wrong_marks(self):
        for marks in (1, 5, 0, -2, 10 ** 30, 2.0, "2", None, True, [2]) + NO_NUMBERS:
            self.raised(BadNumber("marks"), Row, marks, [0])
            self.raised(BadNumber("marks"), Row, marks, None)
            self.raised(BadNumber("marks"), Row, marks, [9])

    def test_wrong_places(self):
        for places in ([], (), [0] * 7, [2], [-1], [0, 1, 2], [True], [0, False], [0.0], ["0"], "01", [[0]], [None]):
            self.raised(BadRow("places"), Row, 2, places)
        for places in NO_LISTS:
            self.raised(BadRow("places"), Row, 3, places)
        self.raised(BadRow("places"), Row, 4, [4])
        self.raised(BadRow("places"), Row, 2, [0] * 100000)

    def test_what_is_passed_is_copied(self):
        places = [0, 1]
        row = Row(2, places)
        places.append(0)
        self.same(row.places, (0, 1))
        self.assertEqual(Row(2, (0, 1)), row)

    def test_renamed(self):
        row = Row(3, [0, 2, 2, 1])
        self.assertEqual(row.renamed([1, 2, 0]), Row(3, [1, 0, 0, 2]))
        self.assertEqual(row.renamed((0, 1, 2)), row)
        self.assertEqual(row, Row(3, [0, 2, 2, 1]))
        for order in ([0, 1], [0, 1, 2, 3], [0, 1, 1], [1, 2, 3], [0, 1, -1], [0, True, 2], "012", [0, 1, "2"], []):
            self.raised(BadNumber("order"), row.renamed, order)
        for order in ODD_VALUES:
            self.raised(BadNumber("order"), row.renamed, order)

    def test_moved(self):
        row = Row(3, [0, 2, 2, 1])
        self.assertEqual(row.moved([3, 0, 1, 2]), Row(3, [1, 0, 2, 2]))
        self.assertEqual(row.moved((0, 1, 2, 3)), row)
        for order in ([0, 1, 2], [0, 1, 2, 3, 4], [0, 0, 1, 2], [1, 2, 3, 4], [-1, 0, 1, 2], [False, 1, 2, 3], "0123"):
            self.raised(BadNumber("order"), row.moved, order)
        for order in ODD_VALUES + ([],):
            self.raised(BadNumber("order"), row.moved, order)
        self.assertEqual(Row(2, [1]).moved([0]), Row(2, [1]))

    def test_every_order_of_marks_and_places(self):
        row = Row(4, [0, 3, 1, 2])
        for order in itertools.permutations(range(4)):
            self.assertEqual(row.renamed(order).places, tuple(order[mark] for mark in row.places))
            self.assertEqual(row.moved(list(order)).places, tuple(row.places[place] for place in order))

    def test_equality(self):
        self.assertEqual(Row(2, [0, 1]), Row(2, (0, 1)))
        self.assertNotEqual(Row(2, [0, 1]), Row(3, [0, 1]))
        self.assertNotEqual(Row(2, [0, 1]), Row(2, [0, 1, 1]))
        for value in ODD_VALUES + ((0, 1), "2 : 0 1"):
            self.assertFalse(Row(2, [0, 1]) == value)

    def test_texts(self):
        self.assertEqual(str(Row(4, [0, 3, 2])), "4 : 0 3 2")
        for marks in (2, 3, 4):
            for many in (1, 2, 3):
                for places in itertools.product(range(marks), repeat=many):
                    row = Row(marks, places)
                    self.assertEqual(Row.read(str(row)), row)
        self.assertEqual(str(Row.read("2 : 0 1 0 1 0 1")), "2 : 0 1 0 1 0 1")

    def test_bent_texts(self):
        for text, item in [
                ("", 0), (" ", 0), ("1 : 0", 0), ("5 : 0", 0), ("02 : 0", 0), ("+2 : 0", 0), ("-2 : 0", 0), ("2: 0", 0),
                (" 2 : 0", 0), ("2", 1), ("2 ", 1), ("2  : 0", 1), ("2 0 1", 1), ("2 ; 0", 1), ("2 :: 0", 1),
                ("2 :", 2), ("2 : ", 2), ("2 :  0", 2), ("2 : 2", 2), ("2 : 00", 2), ("2 : 01", 2), ("2 : -1", 2),
                ("2 : -0", 2), ("2 : +1", 2), ("2 : : 0", 2), ("2 : a", 2), ("2 : 0\n", 2), ("2 : 0\t1", 2),
                ("2 : 0 1 2", 4), ("3 : 0 1 2 3", 5), ("2 : 0 ", 3), ("2 : 0  1", 3), ("2 : 0 1\n", 3), ("\n2 : 0", 0),
                ("2\n: 0", 0), ("2 :\n 0", 1), ("2 : 0 1 0 1 0 1 0", 8), ("2 : 0 1 0 1 0 1 2", 8),
                ("2 : 0 1 0 1 0 1 ", 8), ("2 : 0 1 0 1 0 2 0", 7), ("2 : " + "0" * 61, 2), ("1" * 61 + " : 0", 0),
                ("2 : " + "1" * 60, 2), ("2 : 1.0", 2), ("2 : 1_0", 2), ("2 : 0 1 : 0", 4), ("4 : 3 4", 3),
                ("2 : 0 " * 20000, 3), ("2 : \\", 2), ("2 :0 1", 1)]:
            self.raised(BadText(0, item), Row.read, text)

    def test_texts_bent_at_each_item(self):
        items = "3 : 0 2 1 1 2 0".split(" ")
        for at in range(len(items)):
            wanted = at if at < 2 else at + 1 if at == 7 else None
            for bad in ("", "x", "-1", "00", "9", "0\n"):
                self.raised(BadText(0, at), Row.read, " ".join(items[:at] + [bad] + items[at + 1:]))
                self.raised(BadText(0, at), Row.read, " ".join(items[:at] + [bad] + items[at:]))
            if at < 3:
                self.raised(BadText(0, at), Row.read, " ".join(items[:at]))
            if wanted is None:
                self.raised(BadText(0, 8), Row.read, " ".join(items[:at] + [items[at]] + items[at:]))
        self.raised(BadText(0, 0), Row.read, ": 0 2")
        self.raised(BadText(0, 1), Row.read, "3 3 : 0")
        self.raised(BadText(0, 2), Row.read, "3 : : 0")
        self.raised(BadText(0, 1), Row.read, "3 0 2")

    def test_what_is_no_string(self):
        for value in ODD_VALUES + (1, ["2", ":", "0"], ("2 : 0",), Row(2, [0])):
            self.raised(BadText(0, 0), Row.read, value)
