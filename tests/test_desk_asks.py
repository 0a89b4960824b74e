"""The ask lines of a desk, against the functions that they stand for."""

import itertools
import random

from fourthlike.answers import quarrel, word_of
from fourthlike.asking import rows_to_ask
from fourthlike.books import Book
from fourthlike.deeds import by_deeds
from fourthlike.desk_asks import answer_of
from fourthlike.desk_lines import DEEDS
from fourthlike.doings import fourth_by_places, is_by_places
from fourthlike.errors import BadDesk, BadText, Impossible, LikeError, Misfit, NoName, Nothing, TooMany
from fourthlike.fourthwords import fourths_of_words
from fourthlike.layings import is_like_words
from fourthlike.likely import likely
from fourthlike.likenesses import fourth_of, is_proportion
from fourthlike.orders import Order
from fourthlike.rows import Row
from fourthlike.tables import Table
from fourthlike.told import Told
from fourthlike.weights import follows, times_of
from tests.helpers import ODD_VALUES, Case
from tests.test_books import some_books
from tests.test_orders import all_orders
from tests.test_tables import NO_TABLES
from tests.test_told import some_tolds

MIXED = Table([("r", Row(2, [0, 1])), ("s", Row(2, [1, 1])), ("w", "ab"), ("v", ""), ("o", Order(["b", "a"])),
               ("p", Order(["a", "b"])), ("three", Row(3, [0, 1])), ("long", Row(2, [0])), ("big", "a" * 13),
               ("q", Order(["a", "c"])), ("k", Order(["a"])), ("seven", "abcdefg")])


def outcome(call, *args):
    """What the call returns, or the error that it raises."""
    try:
        return call(*args)
    except LikeError as error:
        return error


class ThingsTest(Case):
    def answers(self, table, line, wanted):
        """Fails unless the line is answered so, or raises this error."""
        if isinstance(wanted, LikeError):
            self.raised(wanted, answer_of, table, line)
        else:
            self.same(answer_of(table, line), wanted)

    def test_names_and_show(self):
        self.answers(Table(), "names", "-")
        self.answers(MIXED, "names", "r s w v o p three long big q k seven")
        for name, text in (("r", "row 2 : 0 1"), ("w", "word ab"), ("v", "word "), ("o", "order b a"), ("k", "order a"),
                           ("three", "row 3 : 0 1")):
            self.answers(MIXED, "show " + name, text)
        self.answers(MIXED, "show x", NoName("x"))
        self.answers(Table(), "show a", NoName("a"))

    def test_rows(self):
        rows = [Row(2, places) for places in itertools.product(range(2), repeat=2)]
        rows += [Row(3, [2, 0]), Row(3, [0, 1])]
        table = Table([("abcdef"[at], row) for at, row in enumerate(rows)])
        for four in itertools.product("abcdef", repeat=4):
            things = [table.thing(name) for name in four]
            found = outcome(is_proportion, *things)
            wanted = found if isinstance(found, LikeError) else "yes" if found else "no"
            self.answers(table, "like " + " ".join(four), wanted)
        for three in itertools.product("abcdef", repeat=3):
            found = outcome(fourth_of, *[table.thing(name) for name in three])
            wanted = found if isinstance(found, LikeError) else str(found.row) if found else "-"
            self.answers(table, "fourth " + " ".join(three), wanted)

    def test_words(self):
        words = ["", "a", "b", "ab", "ba", "abc"]
        table = Table([("abcdef"[at], word) for at, word in enumerate(words)])
        for four in itertools.product("abcdef", repeat=4):
            wanted = "yes" if is_like_words(*[table.thing(name) for name in four]) else "no"
            self.answers(table, "like " + " ".join(four), wanted)
        for three in itertools.product("abcdef", repeat=3):
            found = fourths_of_words(*[table.thing(name) for name in three])
            self.answers(table, "fourth " + " ".join(three), " / ".join(found) if found else "-")
        self.answers(table, "fourth a a a", "")
        self.answers(table, "fourth a d b", "aab / aba")
        self.answers(table, "fourth b a a", "-")

    def test_orders(self):
        orders = all_orders(3)
        table = Table([("abcdef"[at], order) for at, order in enumerate(orders)])
        for four in itertools.product("abcdef", repeat=4):
            wanted = "yes" if is_by_places(*[table.thing(name) for name in four]) else "no"
            self.answers(table, "like " + " ".join(four), wanted)
        for three in itertools.product("abcdef", repeat=3):
            wanted = str(fourth_by_places(*[table.thing(name) for name in three]))
            self.answers(table, "fourth " + " ".join(three), wanted)

    def test_errors_in_their_order(self):
        for word, many in (("like", 4), ("fourth", 3)):
            for at in range(many):
                names = ["r"] * many
                names[at] = "x"
                names[at - 1] = "w"
                self.answers(MIXED, " ".join([word, *names]), NoName("x"))
                if at:
                    names[0] = "y"
                    self.answers(MIXED, " ".join([word, *names]), NoName("y"))
                for other in ("w", "v", "o", "big"):
                    names = ["r"] * many
                    names[at] = other
                    self.answers(MIXED, " ".join([word, *names]), Misfit("kinds"))
                    names[at - 1] = "three"
                    self.answers(MIXED, " ".join([word, *names]), Misfit("kinds"))
                for name, other, error in (("r", "three", Misfit("marks")), ("r", "long", Misfit("places")),
                                           ("o", "q", Misfit("names")), ("o", "k", Misfit("places"))):
                    names = [name] * many
                    names[at] = other
                    self.answers(MIXED, " ".join([word, *names]), error)
        self.answers(MIXED, "like w w w big", TooMany("letters", 12))
        self.answers(MIXED, "like w w w seven", "no")
        self.answers(MIXED, "fourth w w seven", TooMany("letters", 6))
        self.answers(Table([("a", ""), ("b", "abcdef"), ("c", "ghijkl")]), "fourth a b c", TooMany("fourths", 400))

    def test_what_is_no_table(self):
        for value in NO_TABLES:
            self.raised(BadDesk("table"), answer_of, value, "names")
            self.raised(BadDesk("table"), answer_of, value, None)

    def test_lines_of_the_other_sort_and_none(self):
        for word in DEEDS:
            for rest in ("", " ", " a", " 0 0 0", " A - ?"):
                self.raised(BadText(0, 0), answer_of, MIXED, word + rest)
        for line in ODD_VALUES + (0, ["names"], "", " ", "Names", "name", "names\n", "undo", "-"):
            self.raised(BadText(0, 0), answer_of, MIXED, line)
        for line, item in (("names a", 1), ("show", 1), ("like x y z", 4), ("fourth x", 2), ("fours 0", 1),
                           ("four x", 1), ("follows a b c", 4), ("is 012", 1), ("likely 0 1", 2),
                           ("quarrel ", 1), ("ask ", 1)):
            self.raised(BadText(0, item), answer_of, Table(), line)


class FoursTest(Case):
    def test_fours(self):
        self.same(answer_of(Table(), "fours"), "0")
        self.raised(NoName(0), answer_of, Table(), "four 0")
        for told in some_tolds(30, (1, 6), (1, 8)):
            table = Table([("x", "x")], told.fours)
            self.same(answer_of(table, "fours"), str(len(told)))
            for number, four in enumerate(told.fours):
                self.same(answer_of(table, f"four {number}"), " ".join(four))
            for number in (len(told), 10 ** 40):
                self.raised(NoName(number), answer_of, table, f"four {number}")

    def test_what_follows(self):
        chance = random.Random(3)
        seen = set()
        for told in some_tolds(60, (1, 5), (0, 5), 4):
            table = Table((), told.fours)
            for four in [chance.choices(told.names + ("new",), k=4) for _ in range(4)] + [told.names[:1] * 4]:
                names = list(dict.fromkeys(name for one in [*told.fours, four] for name in one))
                whole = Told(names, told.fours)
                items = " ".join(four)
                self.same(answer_of(table, "follows " + items), "yes" if follows(whole, four) else "no")
                times = times_of(whole, four)
                self.same(answer_of(table, "times " + items), str(times.number) if times else "-")
                self.same(answer_of(table, "deeds " + items), "yes" if by_deeds(whole, four) else "no")
                seen |= {answer_of(table, word + " " + items) for word in ("follows", "times")}
        self.assertTrue({"yes", "no", "1", "2", "-"} <= seen)

    def test_names_that_are_no_things(self):
        table = Table([("a", "ab")])
        self.same(answer_of(table, "follows x y x y"), "yes")
        self.same(answer_of(table, "times x y y x"), "-")
        self.same(answer_of(table, "deeds x x y y"), "yes")

    def test_too_many_names(self):
        table = Table((), [("a", "b", "c", "d"), ("e", "e", "e", "e")] * 4)
        for word in ("follows", "times", "deeds"):
            self.assertIn(answer_of(table, word + " a b c f"), ("yes", "no", "-"))
            self.raised(TooMany("names", 6), answer_of, table, word + " a b g f")
            self.assertEqual(answer_of(Table(), word + " a b c d"), "-" if word == "times" else "no")


class CasesTest(Case):
    def test_without_a_case(self):
        for table in (Table(), MIXED):
            self.same(answer_of(table, "cases"), "0")
            self.same(answer_of(table, "quarrel"), "-")
            for line in ("is 0", "is 0101", "likely 1", "likely 000000", "ask"):
                self.raised(Nothing(), answer_of, table, line)

    def look_at(self, book):
        """Fails unless all that can be asked of the book is answered so; returns the answers."""
        table = Table((), (), book.cases)
        self.same(answer_of(table, "cases"), str(len(book)))
        found = quarrel(book)
        seen = {"possible" if found else "quarrel"}
        self.same(answer_of(table, "quarrel"), "-" if found else " ".join(map(str, found.numbers)))
        if found:
            self.same(answer_of(table, "ask"), str(len(rows_to_ask(book))))
        else:
            self.raised(Impossible(found), answer_of, table, "ask")
        for row in itertools.product((0, 1), repeat=book.places):
            bits = "".join(map(str, row))
            if found:
                paper = word_of(book, row)
                wanted = "open" if paper.word == "open" else str(paper.outcome)
                self.same(answer_of(table, "is " + bits), wanted)
                seen.add(wanted)
            else:
                self.raised(Impossible(found), answer_of, table, "is " + bits)
            if book.places > 4:
                self.raised(TooMany("places", 4), answer_of, table, "likely " + bits)
                continue
            paper = likely(book)
            given = dict(book.cases) if not paper else {**dict(book.cases), **{one: bit for one, bit, _ in paper.rows}}
            wanted = str(given.get(row, "-")) if paper else "clash"
            self.same(answer_of(table, "likely " + bits), wanted)
            seen.add("likely " + wanted)
        return seen

    def test_books(self):
        seen = set()
        for book in some_books(60, (1, 3), (1, 6), 5) + some_books(8, (4, 5), (3, 8), 6):
            seen |= self.look_at(book)
        self.assertEqual(seen, {"possible", "quarrel", "0", "1", "open", "likely 0", "likely 1", "likely -",
                                "likely clash"})

    def test_other_numbers_of_bits(self):
        for places in (1, 2, 5):
            table = Table((), (), [((0,) * places, 0)])
            for many in range(1, 7):
                if many != places:
                    self.raised(Misfit("places"), answer_of, table, "is " + "0" * many)
                    self.raised(Misfit("places"), answer_of, table, "likely " + "0" * many)
        # A book that is not possible, or has too many places, is looked at behind the number of bits.
        four = [((0, 0), 0), ((0, 1), 1), ((1, 0), 1), ((1, 1), 1)]
        self.raised(Misfit("places"), answer_of, Table((), (), four), "is 0")
        self.raised(Impossible(quarrel(Book(2, four))), answer_of, Table((), (), four), "is 00")
