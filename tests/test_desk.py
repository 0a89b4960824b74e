"""Desks: told lines, undo, redo, twins; stories."""

import random

from fourthlike.desk import Desk
from fourthlike.desk_asks import answer_of
from fourthlike.desk_deeds import changed
from fourthlike.desk_lines import ASKS, DEEDS
from fourthlike.errors import (
    BadDesk, BadLine, BadText, LikeError, Misfit, NoCase, NoName, Nothing, TooMany, Twice)
from fourthlike.orders import Order
from fourthlike.stories import parting, replay
from fourthlike.tables import Table
from tests.helpers import NO_LISTS, NO_NAMES, ODD_VALUES, Case
from tests.test_desk_lines import LINES

NO_DESKS = ODD_VALUES + (0, "", (), [], "desk", Table(), Desk)
DEED_LINES = ["put a word ab", "put b word ba", "put c order a b c", "drop a", "drop b", "tell x y y z", "tell y z z w",
              "tell a b c d", "strike 0", "strike 1 0", "case 00 0", "case 01 1", "case 10 1", "case 11 1", "case 0 1",
              "back 0", "back 1 0", "put d row 2 : 0 1"]
ASK_LINES = ["names", "show a", "like a a b b", "fourth a a b", "fours", "cases", "four 0", "follows x z z y",
             "times x z z y", "deeds x z z y", "is 11", "likely 11", "quarrel", "ask"]
BAD_LINES = ["", "undo", "names ", "put a word A", "drop zz", "case 012 1", "strike 0 0", "four 99", None, 0, ["names"]]


class SlowDesk:
    """A desk by the words of the document: its story, and what was taken back."""

    def __init__(self, story=(), undone=()):
        self.story = list(story)
        self.undone = list(undone)

    def table(self):
        """The table that comes of the story alone."""
        table = Table()
        for line in self.story:
            table, _ = changed(table, line)
        return table

    def told(self, lines):
        """The answers to the lines, or the BadLine of the first that raises an error; then nothing is changed."""
        story, undone, answers = list(self.story), list(self.undone), []
        for index, line in enumerate(lines):
            try:
                word = line.split(" ")[0] if isinstance(line, str) else None
                if word in ASKS:
                    answers.append(answer_of(self.table(), line))
                else:
                    answers.append(changed(self.table(), line)[1])
                    self.story.append(line)
                    self.undone = []
            except LikeError as error:
                self.story, self.undone = story, undone
                return BadLine(index, error)
        return tuple(answers)


class DeskTest(Case):
    def same_desk(self, desk, slow):
        """Fails unless the desk is as the slow one, in all that can be seen."""
        self.same(desk.story, tuple(slow.story))
        table = slow.table()
        self.assertEqual(desk.table, table)
        self.same((desk.table.names, desk.table.fours, desk.table.cases), (table.names, table.fours, table.cases))
        self.assertEqual((desk.table.told, desk.table.book), (table.told, table.book))
        self.same(len(desk), len(table.cases))
        for name in ("a", "b", "c", "d", "x"):
            self.is_right(name in table.names, desk.__contains__, name)

    def test_empty(self):
        desk = Desk()
        self.same((desk.story, desk.table.things, len(desk), desk.told()), ((), (), 0, ()))
        self.assertEqual(desk, Desk())
        self.raised(Nothing(), desk.undo)
        self.raised(Nothing(), desk.redo)
        self.same(desk.story, ())

    def test_each_line(self):
        for line in LINES:
            desk = Desk()
            desk.told("put a word ab", "tell x y y z", "tell x x x x", "tell x y x y", "case 010 0", "case 110 1")
            before = desk.table
            word = line.split(" ")[0]
            try:
                answer = answer_of(before, line) if word in ASKS else changed(before, line)[1]
            except LikeError as error:
                self.raised(error, desk, line)
                self.raised(BadLine(0, error), desk.told, line)
                self.raised(BadLine(2, error), desk.tried, "names", "fours", line)
                self.assertIs(desk.table, before)
                self.same(len(desk.story), 6)
                continue
            self.same(desk.tried(line), (answer,))
            self.assertEqual(desk.table, before)
            self.same(desk.twin()(line), answer)
            self.same(desk.told(line), (answer,))
            self.assertEqual(desk.table, before if word in ASKS else changed(before, line)[0])
            self.same(desk.story[6:], () if word in ASKS else (line,))

    def test_long_runs(self):
        for seed in range(40):
            chance = random.Random(seed)
            desk, slow = Desk(), SlowDesk()
            for _ in range(60):
                self.one_turn(chance, desk, slow)
                self.same_desk(desk, slow)

    def one_turn(self, chance, desk, slow):
        """Does the same, by chance, to both desks."""
        deed = chance.choice(("told", "told", "tried", "call", "undo", "undo", "redo", "twin"))
        lines = [chance.choice(chance.choice((DEED_LINES, DEED_LINES, DEED_LINES, ASK_LINES)))
                 for _ in range(chance.randint(1, 3))]
        if chance.random() < 0.1:
            lines.insert(chance.randint(0, len(lines)), chance.choice(BAD_LINES))
        if deed == "told":
            self.does(slow.told(lines), desk.told, *lines)
        elif deed == "tried":
            self.does(SlowDesk(slow.story, slow.undone).told(lines), desk.tried, *lines)
        elif deed == "call":
            found = slow.told(lines[:1])
            self.does(found.error if isinstance(found, LikeError) else found[0], desk, lines[0])
        elif deed == "undo":
            self.does(slow.story[-1] if slow.story else Nothing(), desk.undo)
            if slow.story:
                slow.undone.append(slow.story.pop())
        elif deed == "redo":
            self.does(slow.undone[-1] if slow.undone else Nothing(), desk.redo)
            if slow.undone:
                slow.story.append(slow.undone.pop())
        else:
            self.look_at_twins(chance, desk, slow)

    def does(self, wanted, call, *args):
        """Fails unless the call returns what is wanted, or raises it."""
        if isinstance(wanted, LikeError):
            self.raised(wanted, call, *args)
        else:
            self.same(call(*args), wanted)

    def look_at_twins(self, chance, desk, slow):
        """Fails unless a twin is in all as the desk, and neither changes the other."""
        twin, other = desk.twin(), SlowDesk(slow.story, slow.undone)
        self.same_desk(twin, other)
        self.assertEqual(twin, desk)
        for _ in range(chance.randint(1, 3)):
            line = chance.choice(DEED_LINES)
            self.does(other.told([line]), twin.told, line)
        self.same_desk(desk, slow)
        again = desk.twin()
        if slow.undone:
            self.same(again.redo(), slow.undone[-1])
        else:
            self.raised(Nothing(), again.redo)
        self.same_desk(twin, other)
        self.same_desk(desk, slow)

    def test_undo_and_redo(self):
        desk = Desk()
        desk.told("case 0 1", "tell a b c d", "put a word ab")
        self.same([desk.undo(), desk.undo(), desk.redo(), desk.redo()],
                  ["put a word ab", "tell a b c d", "tell a b c d", "put a word ab"])
        self.raised(Nothing(), desk.redo)
        self.same([desk.undo(), desk.undo()], ["put a word ab", "tell a b c d"])
        # Asks, lines that raise an error and lines that are tried take nothing away from what can be done again.
        desk.told("fours", "names")
        self.raised(BadLine(1, NoName("z")), desk.told, "case 1 1", "drop z")
        desk.tried("case 1 1")
        self.raised(Misfit("places"), desk, "case 01 1")
        self.same(desk.redo(), "tell a b c d")
        desk("case 1 0")
        self.raised(Nothing(), desk.redo)
        self.same(desk.story, ("case 0 1", "tell a b c d", "case 1 0"))

    def test_errors_leave_the_desk_as_it_was(self):
        desk = Desk()
        desk.told("put a word ab", "case 0 1", "tell a b c d", "tell a a b b")
        desk.undo()
        for lines, error in [
                (("drop a", "drop a"), BadLine(1, NoName("a"))), (("names", "put a word b"), BadLine(1, Twice("a"))),
                (("case 1 1", "back 0 1", "is 0"), BadLine(2, Nothing())),
                (("tell e f g a",), BadLine(0, TooMany("names", 6))),
                (("strike 0", "four 0"), BadLine(1, NoName(0))), (("back 3",), BadLine(0, NoCase(3))),
                (("drop a", None), BadLine(1, BadText(0, 0))), (("drop a", "what"), BadLine(1, BadText(0, 0)))]:
            self.raised(error, desk.told, *lines)
            self.raised(error, desk.tried, *lines)
            self.same((desk.story, desk.table.names, len(desk.table.fours), len(desk)),
                      (("put a word ab", "case 0 1", "tell a b c d"), ("a",), 1, 1))
        self.same(desk.redo(), "tell a a b b")

    def test_any_values_for_lines(self):
        desk = Desk()
        for value in ODD_VALUES + (0, [], ["names"], ("names",), desk):
            self.raised(BadText(0, 0), desk, value)
            self.raised(BadLine(1, BadText(0, 0)), desk.told, "names", value)
            self.raised(BadLine(0, BadText(0, 0)), desk.tried, value, "names")

    def test_names_in_a_desk(self):
        desk = Desk()
        desk.told("put a word b", "tell x y z w")
        for value in NO_NAMES + ("b", "x", "ab", desk):
            self.assertIs(value in desk, False)
        self.assertIs("a" in desk, True)

    def test_equality(self):
        one, other = Desk(), Desk()
        one.told("put a word b", "case 0 1", "case 1 0")
        self.assertFalse(one == other)
        other.told("case 1 1", "back 0", "case 0 1", "put a word b", "case 1 0")
        self.assertTrue(one == other)
        self.assertNotEqual(one.story, other.story)
        one.undo()
        self.assertFalse(one == other)
        for value in NO_DESKS + (one.table,):
            self.assertFalse(one == value)

    def test_what_was_taken_back_leaves_the_answers(self):
        desk = Desk()
        desk.told("tell a b b c", "tell b c c d", "follows a b c d")
        self.same(desk("follows a b c d"), "yes")
        desk.undo()
        self.same(desk("follows a b c d"), "no")
        self.same(desk.told("case 00 0", "case 01 1", "case 10 1", "is 11", "case 11 1", "quarrel"),
                  ("0", "1", "2", "0", "3", "0 1 2 3"))
        self.same([desk("back 3"), desk("is 11"), desk("quarrel"), desk("ask")], ["3", "0", "-", "0"])

    def test_many_lines_come_shortly(self):
        desk = Desk()
        lines = [f"put a{number} word ab" for number in range(400)]
        self.shortly(desk.told, *lines)
        self.same(len(desk.table.things), 400)
        for _ in range(200):
            desk.undo()
        self.same(desk.table.names[-1], "a199")
        for _ in range(200):
            desk.redo()
        self.same(self.shortly(replay, lines).table.names, desk.table.names)


class StoriesTest(Case):
    def test_replay(self):
        for seed in range(60):
            chance = random.Random(seed)
            lines = chance.choices(DEED_LINES, k=8)
            slow = SlowDesk()
            found = slow.told(lines)
            if isinstance(found, LikeError):
                self.raised(found, replay, lines)
                lines = lines[:found.line]
            desk = replay(tuple(lines))
            self.assertIs(type(desk), Desk)
            self.same(desk.story, tuple(lines))
            self.assertEqual(desk, replay(desk.story))
            self.raised(Nothing(), desk.redo)
            if lines:
                self.same(desk.undo(), lines[-1])
        self.assertEqual(replay([]), Desk())

    def test_replay_of_other_lines(self):
        for word in ASKS:
            for line in (word, word + " a", word + " ", word + " ? ?"):
                self.raised(BadLine(1, BadText(0, 0)), replay, ["case 0 1", line, "drop z"])
        for lines, error in [(["drop a"], BadLine(0, NoName("a"))), (["case 0 1", "case 0 0"], BadLine(1, Twice((0,)))),
                             (["case 0 1", "case 0"], BadLine(1, BadText(0, 2))), ([""], BadLine(0, BadText(0, 0))),
                             (["drop a", "names"], BadLine(0, NoName("a"))),
                             (["names", "drop a"], BadLine(0, BadText(0, 0)))]:
            self.raised(error, replay, lines)

    def test_what_is_no_list_of_strings(self):
        for lines in NO_LISTS + ("", "names", {"case 0 1": 1}, [None], ["case 0 1", 0], ["drop a", None],
                                 [["case 0 1"]]):
            self.raised(BadDesk("lines"), replay, lines)

    def test_parting(self):
        for seed in range(40):
            chance = random.Random(seed)
            same = [f"tell a b c {name}" for name in chance.choices("abcd", k=chance.randint(0, 4))]
            ends = [[f"put {name} word b" for name in chance.sample("abcd", chance.randint(0, 3))] for _ in range(2)]
            one, other = replay(same + ends[0]), replay(same + ends[1])
            wanted = 0
            while wanted < min(len(one.story), len(other.story)) and one.story[wanted] == other.story[wanted]:
                wanted += 1
            self.same(parting(one, other), wanted)
            self.same(parting(other, one), wanted)
            self.same(parting(one, one.twin()), len(one.story))
        one = replay(["case 0 1", "case 1 1"])
        other = one.twin()
        other.undo()
        self.same(parting(one, other), 1)

    def test_what_is_no_desk(self):
        for value in NO_DESKS:
            self.raised(BadDesk("one"), parting, value, None)
            self.raised(BadDesk("other"), parting, Desk(), value)

    def test_deeds_and_asks_are_told_apart(self):
        self.assertFalse(set(DEEDS) & set(ASKS))
        self.assertEqual(Order.read("a b"), replay(["put c order a b"]).table.thing("c"))
