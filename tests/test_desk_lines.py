"""The lines of a desk, read."""

import re

from fourthlike.desk_lines import ASKS, DEEDS, read_line
from fourthlike.errors import BadText
from fourthlike.orders import Order
from fourthlike.rows import Row
from tests.helpers import NO_ITEMS, ODD_VALUES, Case, bent_texts, first_wrong, looks_like_name

NAME, NUMBER, BITS, BIT = "name", "number", "bits", "bit"
SHAPES = {
    "drop": [NAME], "tell": [NAME] * 4, "case": [BITS, BIT], "names": [], "show": [NAME], "like": [NAME] * 4,
    "fourth": [NAME] * 3, "fours": [], "cases": [], "four": [NUMBER], "follows": [NAME] * 4, "times": [NAME] * 4,
    "deeds": [NAME] * 4, "is": [BITS], "likely": [BITS], "quarrel": [], "ask": []}
LINES = [
    "put a row 2 : 0 1", "put b2 row 4 : 3 0 1 2 3 3", "put a word ab", "put a word ", "put a order b",
    "put a order a b c", "put a order e d c b a", "drop a", "tell a b c d", "tell a a a a", "strike 0", "strike 0 2 10",
    "case 011 1", "case 0 0", "case 010101 1", "back 0", "back 3 1 3", "names", "show a1", "like a b c d",
    "fourth a b c", "fours",
    "cases", "four 0", "four 12", "follows x y y x", "times x y y x", "deeds x y y x", "is 1", "is 010101", "likely 00",
    "quarrel", "ask"]
OTHERS = ("a", "zz", "0", "1", "2", "10", ":", "/", "-", "row", "word", "order", "01", "0101011", "put", "names", "12a")


def fits(kind, item):
    """Whether the item can stand for what is told."""
    if kind == NAME:
        return looks_like_name(item)
    pattern = {NUMBER: "0|[1-9][0-9]{0,59}", BITS: "[01]{1,6}", BIT: "[01]"}[kind]
    return re.fullmatch(pattern, item) is not None


def can_stand_behind(kind, ahead, item):
    """Whether the item can stand in the text of a thing of this kind."""
    if kind == "word":
        return not ahead and re.fullmatch("[a-z]*", item) is not None
    if kind == "order":
        return len(ahead) < 5 and looks_like_name(item) and item not in ahead
    if len(ahead) == 0:
        return item in ("2", "3", "4")
    return item == ":" if len(ahead) == 1 else len(ahead) < 8 and item in ("0", "1", "2", "3")[:int(ahead[0])]


def can_stand(ahead, item):
    """Whether the item can stand in a line behind those ahead."""
    if not ahead:
        return item in SHAPES or item in ("put", "strike", "back")
    if ahead[0] in ("strike", "back"):
        return fits(NUMBER, item)
    if ahead[0] == "put":
        if len(ahead) == 1:
            return looks_like_name(item)
        return item in ("row", "word", "order") if len(ahead) == 2 else can_stand_behind(ahead[2], ahead[3:], item)
    shape = SHAPES[ahead[0]]
    return len(ahead) <= len(shape) and fits(shape[len(ahead) - 1], item)


def can_end(items):
    if items[0] in ("strike", "back"):
        return len(items) > 1
    if items[0] == "put":
        return len(items) > (5 if items[2:3] == ["row"] else 3)
    return len(items) == len(SHAPES[items[0]]) + 1


def slow_read(line):
    """What the line stands for, if it is a right one."""
    items = line.split(" ")
    if items[0] == "put":
        text = " ".join(items[3:])
        thing = Row.read(text) if items[2] == "row" else Order.read(text) if items[2] == "order" else text
        return "put", items[1], thing
    if items[0] in ("strike", "back", "four"):
        return (items[0],) + tuple(int(item) for item in items[1:])
    if items[0] in ("case", "is", "likely"):
        return (items[0], tuple(int(sign) for sign in items[1])) + tuple(int(item) for item in items[2:])
    return tuple(items)


class DeskLinesTest(Case):
    def look_at(self, line):
        """Fails unless the line is read rightly, or its first wrong item is told."""
        at = first_wrong(line.split(" "), can_stand, can_end, lambda items: True)
        if at is None:
            self.assertEqual(read_line(line), slow_read(line))
            self.assertEqual(repr([type(one) for one in read_line(line)]), repr([type(one) for one in slow_read(line)]))
            self.assertIs(type(read_line(line)), tuple)
        else:
            self.raised(BadText(0, at), read_line, line)
        return at

    def test_first_items(self):
        self.same(DEEDS, ("put", "drop", "tell", "strike", "case", "back"))
        self.same(ASKS, ("names", "show", "like", "fourth", "fours", "cases", "four", "follows", "times", "deeds", "is",
                         "likely", "quarrel", "ask"))
        self.assertEqual({line.split(" ")[0] for line in LINES}, set(DEEDS + ASKS))

    def test_right_lines(self):
        for line in LINES:
            self.assertIsNone(self.look_at(line), line)
        self.same(read_line("case 011 1"), ("case", (0, 1, 1), 1))
        self.same(read_line("strike 0 2 10"), ("strike", 0, 2, 10))
        self.same(read_line("four 12"), ("four", 12))
        self.same(read_line("is 010101"), ("is", (0, 1, 0, 1, 0, 1)))
        self.same(read_line("put a word "), ("put", "a", ""))
        self.same(read_line("names"), ("names",))

    def test_lines_bent_at_each_item(self):
        for line in LINES:
            for bent in bent_texts(line, NO_ITEMS + OTHERS):
                self.look_at(bent)

    def test_bent_lines(self):
        for line, item in [
                ("", 0), (" ", 0), ("names ", 1), (" names", 0), ("Names", 0), ("put", 1), ("put a", 2),
                ("put a row", 3), ("put a row ", 3), ("put a row 2", 4), ("put a row 2 :", 5),
                ("put a row 2 : 0 2 1", 6), ("put a row 2 : 0 0 0 0 0 0 0", 11), ("put a word", 3),
                ("put a word ab c", 4),
                ("put a word aB", 3),
                ("put a word  ", 4), ("put a order", 3), ("put a order ", 3), ("put a order a a", 4),
                ("put a order a b c d e f", 8), ("put 1 word a", 1), ("put a name a", 2), ("strike", 1), ("strike ", 1),
                ("strike 0 ", 2), ("strike -1", 1), ("strike 01", 1), ("strike a", 1), ("case", 1), ("case 0", 2),
                ("case 0 2", 2), ("case 0000000 1", 1), ("case  1", 1), ("case 012 1", 1), ("case 0 1 0", 3),
                ("case 0 10", 2), ("four", 1), ("four 0 0", 2), ("four a", 1), ("is", 1), ("is 2", 1), ("is 0 0", 2),
                ("ask 0", 1), ("tell a b c", 4), ("tell a b c d e", 5), ("tell a b C d", 3), ("like a b c", 4),
                ("fourth a b c d", 4), ("strike " + "1" * 61, 1), ("strike " + "1" * 60, None), ("back", 1)]:
            self.assertEqual(self.look_at(line), item, line)

    def test_what_is_no_string(self):
        for line in ODD_VALUES + (0, ["names"], ("names",), []):
            self.raised(BadText(0, 0), read_line, line)

    def test_long_lines_come_shortly(self):
        numbers = list(range(15000))
        self.same(self.shortly(read_line, "back " + " ".join(map(str, numbers))), ("back",) + tuple(numbers))
        self.same(self.shortly(read_line, "put a word " + "ab" * 40000)[2], "ab" * 40000)
        self.raised(BadText(0, 0), read_line, " " * 100000)
        self.raised(BadText(0, 5), read_line, "tell a b c d" + " " * 90000)
