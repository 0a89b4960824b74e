"""What a desk keeps."""

import itertools

from fourthlike.books import Book
from fourthlike.errors import BadBook, BadDesk, BadNumber, NoName, TooMany, Twice
from fourthlike.orders import Order
from fourthlike.rows import Row
from fourthlike.tables import Table
from fourthlike.told import Told
from tests.helpers import NO_LISTS, NO_NAMES, ODD_VALUES, Case

ROW, ORDER = Row(2, [0, 1]), Order(["b", "a"])
NO_TABLES = ODD_VALUES + (0, "", (), [], ((), (), ()), "names")


def some_tables():
    """Tables of few things, fours and cases."""
    things = [(), [("a", ROW)], [("b", ROW)], [("a", ORDER)], [("a", "")], [("a", "ab"), ["b", ROW]],
              [("b", ROW), ("a", "ab")]]
    fours = [(), [("x", "y", "y", "x")], [["x", "y", "x", "y"]]]
    cases = [(), [([0], 1)], [((0,), 0)], [([0], 1), ([1], 1)]]
    return [Table(*parts) for parts in itertools.product(things, fours, cases)]


class TableTest(Case):
    def test_empty(self):
        for table in (Table(), Table([], [], []), Table((), (), ()), Table(cases=[], things=[])):
            self.same((table.things, table.fours, table.cases, table.names, table.told, table.book),
                      ((), (), (), (), None, None))

    def test_attributes(self):
        things = [["b", ROW], ("a", "ab"), ["c", ORDER], ("d", "")]
        fours = [["x", "y", "y", "z"], ("z", "a", "x", "x")]
        cases = [[[0, 1], 1], ((1, 1), 0)]
        table = Table(things, fours, cases)
        self.same(table.things, (("b", ROW), ("a", "ab"), ("c", ORDER), ("d", "")))
        self.same(table.fours, (("x", "y", "y", "z"), ("z", "a", "x", "x")))
        self.same(table.cases, (((0, 1), 1), ((1, 1), 0)))
        self.same(table.names, ("b", "a", "c", "d"))
        self.assertEqual(table.told, Told(["x", "y", "z", "a"], fours))
        self.assertEqual(table.book, Book(2, cases))
        for name, thing in table.things:
            self.assertIs(table.thing(name), thing)
        things[0][1] = "x"
        fours[0][0] = "q"
        cases[0][0][0] = 1
        things.append(("e", "e"))
        self.same(str(table.told), "x y z a | x y y z , z a x x")
        self.same(table.names, ("b", "a", "c", "d"))
        self.same(table.cases[0], ((0, 1), 1))
        self.assertIs(table.thing("b"), ROW)

    def test_one_four_and_one_case(self):
        table = Table((), [("x", "y", "y", "z")], [([0, 1], 1)])
        self.same((str(table.told), str(table.book)), ("x y z | x y y z", "2 : 0 1 = 1"))
        self.assertIsNone(Table((), [("x", "y", "y", "z")]).book)
        self.assertIsNone(Table((), (), [([0, 1], 1)]).told)

    def test_things_that_are_none(self):
        for things in NO_LISTS + ("", "ab", {"a": "b"}, [("a",)], [("a", "b", "c")], ["ab"], [None], [("a", "b"), 1],
                                  ("a", "b")):
            self.raised(BadDesk("things"), Table, things, None, None)
        for name in NO_NAMES:
            self.raised(BadDesk("things"), Table, [("a", "b"), (name, "b")], None, None)
        for thing in ODD_VALUES + (0, "A", "a b", ["a"], ("a",), "a\n"):
            self.raised(BadDesk("things"), Table, [("a", "b"), ("a", thing)], None, None)
        self.raised(Twice("b"), Table, [("a", "x"), ("b", ROW), ("b", ROW), ("a", "x")], None, None)
        self.raised(Twice("a"), Table, [("a", "x"), ("a", ROW)], [("x",) * 3])

    def test_fours_that_are_none(self):
        for fours in NO_LISTS + ("", "abcd", ["abcd"], [("a", "b", "c")], [("a",) * 5], [None], ("a",) * 4,
                                 {("a",) * 4: 1}, [("a",) * 4, {"a": 1, "b": 1, "c": 1, "d": 1}]):
            self.raised(BadDesk("fours"), Table, (), fours, None)
        for name in NO_NAMES:
            for at in range(4):
                four = ["a"] * at + [name] + ["b"] * (3 - at)
                self.raised(BadDesk("fours"), Table, (), [("a",) * 4, four], None)
        seven = [("a", "b", "c", "d"), ("e", "f", "g", "a")]
        self.raised(TooMany("names", 6), Table, (), seven, None)
        self.raised(TooMany("names", 6), Table, (), seven * 5, None)
        self.raised(TooMany("fours", 8), Table, (), [("a",) * 4] * 9, None)
        self.same(len(Table((), [("a", "b", "c", "d"), ("e", "f", "a", "a")] * 4).told), 8)

    def test_cases_that_are_none(self):
        for cases in NO_LISTS + ("", "01", [([0], 1), ([1],)], [([0], 1, 1)], ["01"], [None], {(0,): 1}, [([], 1)],
                                 [((), 0)], ([0], 1)):
            self.raised(BadDesk("cases"), Table, (), (), cases)
        for bit in ODD_VALUES + (2, -1, "0", [0], (0,)):
            self.raised(BadDesk("cases"), Table, (), (), [([0], 1), ([bit], 1)])
            self.raised(BadDesk("cases"), Table, (), (), [([0], 1), ([1, 0], bit)])
            self.raised(BadDesk("cases"), Table, (), (), [(bit, 1) if bit != [0] and bit != (0,) else (0, 1)])
        self.raised(BadNumber("places"), Table, (), (), [([0] * 7, 1)])
        self.raised(BadNumber("places"), Table, (), (), [([0] * 7, 1), ([0], 1)])
        self.raised(BadBook("cases"), Table, (), (), [([0], 1), ([0] * 7, 1)])
        self.raised(BadBook("cases"), Table, (), (), [([0], 1), ([0, 1], 1)])
        self.raised(Twice((0,)), Table, (), (), [([0], 1), ([1], 1), ([0], 0)])
        rows = list(itertools.product((0, 1), repeat=5))
        self.raised(TooMany("cases", 16), Table, (), (), [(row, 0) for row in rows[:17]])
        self.same(len(Table((), (), [(row, 0) for row in rows[:16]]).book), 16)

    def test_names_that_are_none(self):
        table = Table([("a", "b"), ("c", ROW)], [("x", "y", "y", "x")])
        for value in NO_NAMES + ("b", "x", "ac"):
            self.raised(NoName(value), table.thing, value)

    def test_equality(self):
        tables = some_tables()
        for one, other in itertools.product(tables, repeat=2):
            texts = [([(name, type(thing), str(thing)) for name, thing in table.things], table.fours, table.cases)
                     for table in (one, other)]
            self.assertIs(one == other, texts[0] == texts[1])
        for value in NO_TABLES + (tables[0].things,):
            self.assertFalse(tables[0] == value)
