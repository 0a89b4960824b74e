"""Told proportions of unknowns."""

import itertools
import random

from fourthlike.errors import BadNumber, BadText, BadTold, NoName, TooMany, Twice
from fourthlike.told import Told, row_of
from tests.helpers import NO_ITEMS, NO_LISTS, NO_NAMES, NO_NUMBERS, ODD_VALUES, Case, bent_texts, looks_like_name

SIX = ["x", "y", "z", "w", "a1", "b"]
NO_TOLDS = ODD_VALUES + (0, "", "a |", ["a"], ("a",), [["a"], []])
NO_FOURS = NO_LISTS + ("", "xyzw", [], ["x"], ["x"] * 3, ("x",) * 5, {"x": 1, "y": 2, "z": 3, "w": 4})


def some_tolds(many, names=(1, 6), fours=(0, 8), seed=1):
    chance = random.Random(seed)
    found = []
    for _ in range(many):
        some = chance.sample(SIX, chance.randint(*names))
        found.append(Told(some, [chance.choices(some, k=4) for _ in range(chance.randint(*fours))]))
    return found


def can_stand(ahead, item):
    """Whether the item can stand in the text of a Told behind those ahead."""
    if "|" not in ahead:
        if item == "|":
            return len(ahead) > 0
        return looks_like_name(item) and len(ahead) < 6 and item not in ahead
    names = ahead[:ahead.index("|")]
    told = ahead[len(names) + 1:]
    if len(told) % 5 < 4:
        return item in names
    return item == "," and len(told) < 5 * 7 + 4


def can_end(items):
    return "|" in items and (items[-1] == "|" or (len(items) - items.index("|")) % 5 == 0)


class ToldTest(Case):
    def test_attributes(self):
        told = Told(["x", "b", "a"], [["x", "a", "a", "b"], ("b", "b", "b", "b"), ("b", "b", "b", "b")])
        self.same(told.names, ("x", "b", "a"))
        self.same(told.fours, (("x", "a", "a", "b"), ("b",) * 4, ("b",) * 4))
        self.assertEqual(len(told), 3)
        self.same((Told(names=("a",), fours=()).fours, len(Told(["a"], []))), ((), 0))

    def test_wrong_names(self):
        for names in NO_LISTS + ("", "a", [], (), {"a": 1}):
            self.raised(BadTold("names"), Told, names, [])
            self.raised(BadTold("names"), Told, names, None)
        for name in NO_NAMES:
            for names in ([name], ["a", name], [name, "a", "a"], ["a", "a", name]):
                self.raised(BadTold("names"), Told, names, None)
        self.raised(Twice("a"), Told, ["a", "b", "a", "b"], None)
        self.raised(Twice("b"), Told, ["a", "b", "b", "a"] * 3, [("z",) * 4])

    def test_wrong_fours(self):
        for four in NO_FOURS:
            self.raised(BadTold("fours"), Told, SIX, [["x"] * 4, four])
            self.raised(BadTold("fours"), Told, SIX + ["c"], [["?"] * 4, four])
        for fours in NO_LISTS + ("", "xyzw", {("x",) * 4: 1}, ("x",) * 4):
            self.raised(BadTold("fours"), Told, SIX, fours)

    def test_values_that_are_no_names_of_it(self):
        for value in NO_NAMES + ("c", "xy"):
            for at in range(4):
                four = ["x"] * at + [value] + ["?"] * (3 - at)
                self.raised(NoName(value), Told, SIX, [("y",) * 4, four, ["!"] * 4])
                self.raised(NoName(value), Told, SIX + ["d"], [four] * 9)

    def test_bounds(self):
        eight = [["x", "y", "z", "w"]] * 8
        self.assertEqual(len(Told(SIX, eight)), 8)
        self.raised(TooMany("names", 6), Told, SIX + ["c"], eight)
        self.raised(TooMany("names", 6), Told, SIX + ["c"], eight + eight)
        self.raised(TooMany("fours", 8), Told, SIX, eight + eight[:1])
        self.raised(TooMany("names", 6), Told, ["x%d" % number for number in range(3000)], [["x0"] * 4] * 3000)

    def test_with_four(self):
        told = Told(SIX, [("x", "y", "z", "w")])
        self.assertEqual(told.with_four(["w"] * 4), Told(SIX, [("x", "y", "z", "w"), ("w",) * 4]))
        self.assertEqual(len(told), 1)
        full = Told(SIX, [("x",) * 4] * 8)
        for four in NO_FOURS:
            self.raised(BadTold("four"), told.with_four, four)
            self.raised(BadTold("four"), full.with_four, four)
        for value in NO_NAMES + ("c",):
            self.raised(NoName(value), told.with_four, ["x", "y", value, "?"])
            self.raised(NoName(value), full.with_four, (value, "?", "?", "?"))
        self.raised(TooMany("fours", 8), full.with_four, ["x"] * 4)

    def test_without(self):
        for told in some_tolds(60):
            for number in range(len(told)):
                left = [four for at, four in enumerate(told.fours) if at != number]
                self.assertEqual(told.without(number), Told(told.names, left))
            for number in (len(told), -1, 10 ** 30, 1.0, "0") + NO_NUMBERS:
                self.raised(BadNumber("number"), told.without, number)

    def test_put_in(self):
        for told in some_tolds(40):
            for name, other in itertools.permutations(told.names, 2):
                found = told.put_in(name, other)
                table = {one: name if one == other else one for one in told.names}
                self.same(found.names, tuple(one for one in told.names if one != other))
                self.same(found.fours, tuple(tuple(table[one] for one in four) for four in told.fours))
            name = told.names[-1]
            self.raised(Twice(name), told.put_in, name, name)
            for value in NO_NAMES + ("c",):
                self.raised(NoName(value), told.put_in, value, "?")
                self.raised(NoName(value), told.put_in, value, value)
                self.raised(NoName(value), told.put_in, name, value)

    def test_rows(self):
        for told in some_tolds(40, (1, 4), (0, 2)):
            for four in itertools.product(told.names, repeat=4):
                wanted = [0] * len(told.names)
                for name, sign in zip(four, (1, -1, -1, 1)):
                    wanted[told.names.index(name)] += sign
                self.same(row_of(told, four), tuple(wanted))
                self.same(row_of(told, list(four)), tuple(wanted))

    def test_rows_of_what_is_none(self):
        told = Told(["x", "y"], [])
        for value in NO_TOLDS:
            self.raised(BadTold("told"), row_of, value, None)
            self.raised(BadTold("told"), row_of, value, ["x"] * 4)
        for four in NO_FOURS:
            self.raised(BadTold("four"), row_of, told, four)
        for value in NO_NAMES + ("z",):
            for at in range(4):
                self.raised(NoName(value), row_of, told, ["x"] * at + [value] + ["?"] * (3 - at))

    def test_what_is_passed_is_copied(self):
        names, fours = ["x", "y"], [["x", "x", "y", "y"]]
        told = Told(names, fours)
        names.append("z")
        fours[0].reverse()
        fours.append(["x"] * 4)
        self.same(str(told), "x y | x x y y")

    def test_equality(self):
        tolds = some_tolds(60, (1, 2), (0, 2)) + [Told(["a", "b"], []), Told(["b", "a"], [])]
        for one, other in itertools.product(tolds, repeat=2):
            self.assertIs(one == other, str(one) == str(other))
        for value in NO_TOLDS + (str(tolds[0]), tolds[0].names):
            self.assertFalse(tolds[0] == value)

    def test_texts(self):
        for told in some_tolds(200):
            text = " ".join(told.names) + " |" + " ,".join("".join(" " + name for name in four) for four in told.fours)
            self.same(str(told), text)
            self.assertEqual(Told.read(text), told)

    def test_texts_bent_at_each_item(self):
        for told in some_tolds(5, (1, 3), (0, 3), 2) + some_tolds(1, (6, 6), (8, 8)) + [Told(["a"], [])]:
            for bent in bent_texts(str(told), NO_ITEMS + tuple(told.names) + ("|", ",", "/", ":", "c", "zz")):
                self.reads(Told.read, bent, can_stand, can_end, lambda items: True)

    def test_bent_texts(self):
        for text, item in [
                ("", 0), ("|", 0), ("a", 1), ("a ", 1), ("a a |", 1), ("a b a |", 2), ("a | a", 3), ("a | a a a", 5),
                ("a | a a a a", None), ("a | a a a a ,", 7), ("a | a a a a a", 6), ("a | a a b a", 4), ("a | ", 2),
                ("a | ,", 2), ("a |  a a a a", 2), ("a b c d e f |", None), ("a b c d e f g |", 6),
                ("a b c d e f g", 6),
                ("a | a a a a , a a a", 10), ("a | a a a a | a", 6), ("a |\n", 1), ("A |", 0), ("a , b |", 1)]:
            if item is None:
                self.same(str(Told.read(text)), text)
            else:
                self.raised(BadText(0, item), Told.read, text)
        eight = "a | " + " , ".join(["a a a a"] * 8)
        self.assertEqual(len(Told.read(eight)), 8)
        for more in (" ,", " , a a a a", " a", " "):
            self.raised(BadText(0, 41), Told.read, eight + more)

    def test_what_is_no_string(self):
        for value in ODD_VALUES + (1, ["a", "|"], Told(["a"], [])):
            self.raised(BadText(0, 0), Told.read, value)
