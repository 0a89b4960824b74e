"""The deed lines of a desk."""

import itertools
import random

from fourthlike.desk_deeds import changed
from fourthlike.desk_lines import ASKS
from fourthlike.errors import BadDesk, BadText, Misfit, NoCase, NoName, TooMany, Twice
from fourthlike.orders import Order
from fourthlike.rows import Row
from fourthlike.tables import Table
from tests.helpers import ODD_VALUES, Case
from tests.test_tables import NO_TABLES

ROW, ORDER = Row(2, [0, 1]), Order(["b", "a"])
THINGS = [("a", ROW), ("b", "ab"), ("c", ORDER)]
FOURS = [("x", "y", "y", "x"), ("y", "z", "z", "w"), ("a", "a", "b", "b")]
CASES = [((0, 1), 1), ((1, 1), 0), ((0, 0), 0)]
FULL = Table(THINGS, FOURS, CASES)


class DeskDeedsTest(Case):
    def look_at(self, table, line, things, fours, cases, answer):
        """Fails unless the deed line makes the table with these things, fours and cases."""
        before = (table.things, table.fours, table.cases)
        found = changed(table, line)
        self.assertIs(type(found), tuple)
        after, said = found
        self.same(said, answer)
        wanted = Table(things, fours, cases)
        self.assertEqual(after, wanted)
        self.same((after.names, after.fours, after.cases), (wanted.names, wanted.fours, wanted.cases))
        self.assertEqual((after.told, after.book), (wanted.told, wanted.book))
        self.assertEqual(before, (table.things, table.fours, table.cases))
        self.assertIs(type(after.things), tuple)
        return after

    def test_put(self):
        for text, thing in [("row 3 : 2 0", Row(3, [2, 0])), ("word abc", "abc"), ("word ", ""),
                            ("order c a", Order(["c", "a"]))]:
            self.look_at(FULL, "put d " + text, THINGS + [("d", thing)], FOURS, CASES, "4")
            self.look_at(Table(), "put d " + text, [("d", thing)], [], [], "1")
            self.raised(Twice("b"), changed, FULL, "put b " + text)
        self.raised(BadText(0, 3), changed, FULL, "put b word A")

    def test_drop(self):
        for at, name in enumerate("abc"):
            left = THINGS[:at] + THINGS[at + 1:]
            self.look_at(FULL, "drop " + name, left, FOURS, CASES, "2")
        self.look_at(Table([("a", "a")]), "drop a", [], [], [], "0")
        self.raised(NoName("x"), changed, FULL, "drop x")
        self.raised(NoName("a"), changed, Table(), "drop a")

    def test_tell(self):
        self.look_at(FULL, "tell z w b z", THINGS, FOURS + [("z", "w", "b", "z")], CASES, "3")
        self.look_at(Table(), "tell q q q q", [], [("q",) * 4], [], "0")
        self.look_at(FULL, "tell x y y x", THINGS, FOURS + FOURS[:1], CASES, "3")
        self.raised(TooMany("names", 6), changed, FULL, "tell a b c x")
        eight = Table((), [("a", "b", "c", "d"), ("e", "f", "a", "a")] * 4)
        self.raised(TooMany("fours", 8), changed, eight, "tell a a a a")
        self.raised(TooMany("names", 6), changed, eight, "tell a a a g")
        self.raised(TooMany("names", 6), changed, Table((), [("a", "b", "c", "d")]), "tell e f g a")

    def test_strike(self):
        for many in (1, 2, 3):
            for some in itertools.permutations(range(3), many):
                left = [four for at, four in enumerate(FOURS) if at not in some]
                self.look_at(FULL, "strike " + " ".join(map(str, some)), THINGS, left, CASES, str(3 - many))
        self.raised(NoName(3), changed, FULL, "strike 3")
        self.raised(NoName(3), changed, FULL, "strike 0 0 3 4")
        self.raised(NoName(10 ** 50), changed, FULL, "strike 1 1 1" + "0" * 50)
        self.raised(Twice(1), changed, FULL, "strike 0 1 1 0")
        self.raised(Twice(0), changed, FULL, "strike 0 1 0 1")
        self.raised(NoName(0), changed, Table(), "strike 0")

    def test_case(self):
        self.look_at(FULL, "case 10 1", THINGS, FOURS, CASES + [((1, 0), 1)], "3")
        for bits in ("0", "1", "011", "010101"):
            row = tuple(map(int, bits))
            self.look_at(Table(), f"case {bits} 0", [], [], [(row, 0)], "0")
            self.look_at(Table(THINGS, FOURS), f"case {bits} 1", THINGS, FOURS, [(row, 1)], "0")
        self.raised(Twice((1, 1)), changed, FULL, "case 11 0")
        self.raised(Twice((1, 1)), changed, FULL, "case 11 1")
        for bits in ("0", "011", "010101"):
            self.raised(Misfit("places"), changed, FULL, f"case {bits} 1")
        rows = list(itertools.product((0, 1), repeat=5))
        full = Table((), (), [(row, 0) for row in rows[:16]])
        self.raised(TooMany("cases", 16), changed, full, "case 11111 0")
        self.raised(Twice((0, 0, 0, 0, 0)), changed, full, "case 00000 0")
        self.raised(Misfit("places"), changed, full, "case 1111 0")

    def test_back(self):
        for many in (1, 2, 3):
            for some in itertools.permutations(range(3), many):
                left = [case for at, case in enumerate(CASES) if at not in some]
                self.look_at(FULL, "back " + " ".join(map(str, some)), THINGS, FOURS, left, str(3 - many))
        self.raised(NoCase(3), changed, FULL, "back 3")
        self.raised(NoCase(5), changed, FULL, "back 0 0 5 4")
        self.raised(Twice(1), changed, FULL, "back 0 1 1 0")
        self.raised(NoCase(0), changed, Table(), "back 0")
        # With no case left the next one may have another number of places.
        none = changed(FULL, "back 0 1 2")[0]
        self.look_at(none, "case 111 0", THINGS, FOURS, [((1, 1, 1), 0)], "0")

    def test_what_is_no_table(self):
        for value in NO_TABLES:
            self.raised(BadDesk("table"), changed, value, "put")
            self.raised(BadDesk("table"), changed, value, None)

    def test_lines_of_the_other_sort_and_none(self):
        for word in ASKS:
            for rest in ("", " ", " a", " 0 0 0", " A - ?"):
                self.raised(BadText(0, 0), changed, FULL, word + rest)
        for line in ODD_VALUES + (0, ["drop", "a"], "", " ", "Put", "puts", "put\n", "undo", "-"):
            self.raised(BadText(0, 0), changed, FULL, line)
        for line, item in (("drop", 1), ("drop x y", 2), ("tell a b c", 4), ("strike", 1), ("strike 9 x", 2),
                           ("case 2 1", 1), ("case 0 2", 2), ("back 9 ", 2), ("put a row 2", 4), ("put a", 2)):
            self.raised(BadText(0, item), changed, FULL, line)

    def test_long_runs(self):
        chance = random.Random(1)
        for _ in range(30):
            table, things, fours, cases = Table(), [], [], []
            for _ in range(60):
                word = chance.choice(("put", "put", "drop", "tell", "tell", "strike", "case", "case", "back"))
                line, parts = self.next_line(chance, word, things, fours, cases)
                if line is not None:
                    things, fours, cases, answer = parts
                    table = self.look_at(table, line, things, fours, cases, answer)

    def next_line(self, chance, word, things, fours, cases):
        """A deed line that can be done, and what is there behind it; None if there is none."""
        if word == "put" and len(things) < 6:
            name = chance.choice([one for one in "abcdefgh" if one not in dict(things)])
            things = things + [(name, chance.choice(["", "ab", "zz"]))]
            return f"put {name} word {things[-1][1]}", (things, fours, cases, str(len(things)))
        if word == "drop" and things:
            name = chance.choice(things)[0]
            things = [one for one in things if one[0] != name]
            return f"drop {name}", (things, fours, cases, str(len(things)))
        if word == "tell" and len(fours) < 8:
            four = tuple(chance.choices("uvwxyz", k=4))
            return "tell " + " ".join(four), (things, fours + [four], cases, str(len(fours)))
        if word == "case" and len(cases) < 4:
            row = chance.choice([one for one in itertools.product((0, 1), repeat=2) if one not in dict(cases)])
            bit = chance.randrange(2)
            return f"case {row[0]}{row[1]} {bit}", (things, fours, cases + [(row, bit)], str(len(cases)))
        if word in ("strike", "back"):
            told = fours if word == "strike" else cases
            if told:
                numbers = chance.sample(range(len(told)), chance.randint(1, min(2, len(told))))
                left = [one for at, one in enumerate(told) if at not in numbers]
                parts = (things, left, cases) if word == "strike" else (things, fours, left)
                return " ".join([word] + [str(one) for one in numbers]), (*parts, str(len(left)))
        return None, None
