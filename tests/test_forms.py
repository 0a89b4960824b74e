"""Tables of forms."""

import itertools
import random
import re

from fourthlike.errors import BadForms, BadText, BadWord, NoName, TooMany, Twice
from fourthlike.forms import Forms
from tests.helpers import NO_ITEMS, NO_LISTS, NO_NAMES, ODD_VALUES, Case, bent_texts, looks_like_name
from tests.test_layings import NO_WORDS

ROWS = ["x", "y", "z", "w1"]
COLUMNS = ["p", "q", "r", "x"]
NO_FORMS = ODD_VALUES + (0, "", "x / p : a", ["x"], ("x",), [["x"], ["p"], {}])
SIZES = [(rows, columns) for rows in range(1, 5) for columns in range(1, 5) if rows * columns <= 12]


def random_word(chance, letters="ab", most=3):
    return "".join(chance.choices(letters, k=chance.randint(0, most)))


def some_forms(many, sizes=SIZES, gaps=0.3, seed=1, letters="ab", most=3):
    """Tables with random words, and about so many of their cells gaps."""
    chance = random.Random(seed)
    found = []
    for _ in range(many):
        rows, columns = chance.choice(sizes)
        cells = {pair: random_word(chance, letters, most)
                 for pair in itertools.product(ROWS[:rows], COLUMNS[:columns]) if chance.random() >= gaps}
        found.append(Forms(ROWS[:rows], COLUMNS[:columns], cells))
    return found


def made_forms(many, sizes=SIZES, gaps=0.2, spoilt=0.0, seed=1, letters="ab", most=2):
    """Tables with words of stems and endings, some of them spoilt."""
    chance = random.Random(seed)
    found = []
    for _ in range(many):
        rows, columns = chance.choice(sizes)
        stems = {name: random_word(chance, letters, most) for name in ROWS[:rows]}
        endings = {name: random_word(chance, letters, most) for name in COLUMNS[:columns]}
        cells = {}
        for row, column in itertools.product(stems, endings):
            if chance.random() >= gaps:
                spoil = chance.random() < spoilt
                cells[row, column] = random_word(chance, letters, 3) if spoil else stems[row] + endings[column]
        found.append(Forms(list(stems), list(endings), cells))
    return found


def words_in(forms):
    """A dict from the pairs of the table to its words."""
    return {(row, column): word for row, column, word in forms.cells}


def pairs_in(forms):
    """All pairs of the table, row by row."""
    return list(itertools.product(forms.rows, forms.columns))


def split_items(items):
    """The rows, the columns and the words, as far as they stand; None for what does not."""
    if "/" not in items:
        return items, None, None
    rows = items[:items.index("/")]
    rest = items[len(rows) + 1:]
    if ":" not in rest:
        return rows, rest, None
    return rows, rest[:rest.index(":")], rest[rest.index(":") + 1:]


def can_stand(ahead, item):
    """Whether the item can stand in the text of a table behind those ahead."""
    rows, columns, words = split_items(ahead)
    if words is not None:
        return len(words) < len(rows) * len(columns) and re.fullmatch(r"[.]|-|[a-z]{1,6}", item + "") is not None \
            and not item.endswith("\n")
    names = rows if columns is None else columns
    if item == ("/" if columns is None else ":"):
        return len(names) > 0
    if not looks_like_name(item) or item in names or len(names) == 4:
        return False
    return columns is None or len(rows) * (len(columns) + 1) <= 12


def can_end(items):
    rows, columns, words = split_items(items)
    return words is not None and len(words) == len(rows) * len(columns)


class FormsTest(Case):
    def test_attributes(self):
        forms = Forms(["x", "y"], ("p", "x"), {("y", "p"): "ab", ("x", "x"): ""})
        self.same(forms.rows, ("x", "y"))
        self.same(forms.columns, ("p", "x"))
        self.same(forms.cells, (("x", "x", ""), ("y", "p", "ab")))
        self.same(forms.gaps, (("x", "p"), ("y", "x")))
        self.same(str(forms), "x y / p x : - . ab -")
        for one in some_forms(60):
            self.same(one.cells, tuple((*pair, words_in(one)[pair]) for pair in pairs_in(one) if pair in words_in(one)))
            self.same(one.gaps, tuple(pair for pair in pairs_in(one) if pair not in words_in(one)))

    def test_wrong_names(self):
        for names in NO_LISTS + ("", "x", [], (), {"x": 1}):
            self.raised(BadForms("rows"), Forms, names, None, None)
            self.raised(BadForms("columns"), Forms, ["x"], names, None)
        for name in NO_NAMES:
            for names in ([name], ["x", name], [name, "x", "x"]):
                self.raised(BadForms("rows"), Forms, names, None, None)
                self.raised(BadForms("columns"), Forms, ["x"], names, None)
        self.raised(Twice("y"), Forms, ["x", "y", "y", "x", "x"], None, None)
        self.raised(Twice("x"), Forms, ["x", "y", "x", "y"], None, None)
        self.raised(Twice("p"), Forms, ["x"], ["q", "p", "p"], None)
        self.raised(BadForms("columns"), Forms, ROWS + ["v"], [], None)

    def test_wrong_cells(self):
        for cells in NO_LISTS[:5] + ([], (), "x", 0, {"x": "a"}, {("x",): "a"}, {("x", "p", "p"): "a"}, {"xp": "a"},
                                     {None: "a"}, {("p", "x"): "a"}, {("x", "x"): "a"}, {("x", "s"): "a"},
                                     {("x", None): "a"}, {("x", "p"): "a", ("x", 1): "a"}, {("x", "p"): "a", 0: "a"},
                                     {("x", ("p",)): "a"}, {(True, "p"): "a"}, {b"xp": "a"}):
            self.raised(BadForms("cells"), Forms, ["x"], ["p", "q"], cells)
        for word in NO_WORDS:
            self.raised(BadForms("cells"), Forms, ["x"], ["p", "q"], {("x", "p"): "a", ("x", "q"): word})
            self.raised(BadForms("cells"), Forms, ROWS + ["v"], COLUMNS + ["v"], {("x", "p"): word})

    def test_bounds(self):
        five = ROWS + ["v"]
        self.raised(TooMany("rows", 4), Forms, five, five, {("x", "x"): "a" * 7})
        self.raised(TooMany("columns", 4), Forms, ["x"], five, {("x", "x"): "a" * 7})
        self.raised(TooMany("cells", 12), Forms, ROWS, COLUMNS, {("x", "p"): "a" * 7})
        self.raised(TooMany("cells", 12), Forms, ROWS, COLUMNS, {})
        self.raised(TooMany("letters", 6), Forms, ["x"], ["p"], {("x", "p"): "a" * 7})
        for rows, columns in SIZES:
            cells = {pair: "abcdef" for pair in itertools.product(ROWS[:rows], COLUMNS[:columns])}
            self.assertEqual(len(Forms(ROWS[:rows], COLUMNS[:columns], cells).cells), rows * columns)
        self.assertIn((3, 4), SIZES)
        self.assertIn((4, 3), SIZES)

    def test_words(self):
        for forms in some_forms(40):
            for row, column in pairs_in(forms):
                self.same(forms.word_at(row, column), words_in(forms).get((row, column)))
                for word in ("", "ba", "abcabc"):
                    cells = {**words_in(forms), (row, column): word}
                    self.assertEqual(forms.with_word(row, column, word), Forms(forms.rows, forms.columns, cells))
        forms = some_forms(1)[0]
        text = str(forms)
        forms.with_word(forms.rows[0], forms.columns[0], "zz")
        forms.without(list(forms.gaps) + [(forms.rows[0], forms.columns[0])])
        self.same(str(forms), text)

    def test_wrong_words(self):
        forms = Forms(["x", "y"], ["p"], {})
        for value in NO_NAMES + ("p", "z"):
            self.raised(NoName(value), forms.word_at, value, "?")
            self.raised(NoName(value), forms.with_word, value, "?", None)
        for value in NO_NAMES + ("x", "q"):
            self.raised(NoName(value), forms.word_at, "y", value)
            self.raised(NoName(value), forms.with_word, "y", value, "a" * 7)
        for word in NO_WORDS:
            self.raised(BadWord("word"), forms.with_word, "x", "p", word)
        self.raised(TooMany("letters", 6), forms.with_word, "x", "p", "a" * 7)
        self.same(forms.with_word("x", "p", "a" * 6).word_at("x", "p"), "a" * 6)

    def test_without(self):
        chance = random.Random(2)
        for forms in some_forms(60, seed=2):
            for many in (0, 1, 3):
                out = chance.choices(pairs_in(forms), k=many)
                left = {pair: word for pair, word in words_in(forms).items() if pair not in out}
                wanted = Forms(forms.rows, forms.columns, left)
                self.assertEqual(forms.without([list(pair) for pair in out]), wanted)
                self.assertEqual(forms.without(tuple(out)), wanted)
        forms = Forms(["x", "y"], ["p"], {})
        for cells in NO_LISTS + ("", "xp", ["xp"], [["x"]], [("x", "p", "p")], [("x", "p"), None], {("x", "p"): 1},
                                 [("x", "p"), {"x": 1, "p": 1}], ("x", "p")):
            self.raised(BadForms("cells"), forms.without, cells)
        for value in NO_NAMES + ("z",):
            self.raised(NoName(value), forms.without, [("x", "p"), (value, "?"), ("?", "?")])
            self.raised(NoName(value), forms.without, [("x", "p"), ("y", value), ("?", "?")])
        self.raised(BadForms("cells"), forms.without, [("?", "?"), None])

    def test_turned(self):
        for forms in some_forms(60, seed=3):
            cells = {(column, row): word for (row, column), word in words_in(forms).items()}
            self.assertEqual(forms.turned(), Forms(forms.columns, forms.rows, cells))
            self.assertEqual(forms.turned().turned(), forms)

    def test_what_is_passed_is_copied(self):
        rows, columns, cells = ["x", "y"], ["p"], {("x", "p"): "a"}
        forms = Forms(rows, columns, cells)
        rows.append("z")
        columns[0] = "q"
        cells["y", "p"] = "b"
        self.same(str(forms), "x y / p : a -")

    def test_equality(self):
        tables = some_forms(60, [(1, 1), (1, 2), (2, 1)], most=1) + [Forms(["x", "y"], ["p"], {}),
                                                                    Forms(["y", "x"], ["p"], {})]
        for one, other in itertools.product(tables, repeat=2):
            self.assertIs(one == other, str(one) == str(other))
        for value in NO_FORMS + (str(tables[0]), tables[0].cells):
            self.assertFalse(tables[0] == value)

    def test_texts(self):
        for forms in some_forms(150, seed=4, letters="abyz", most=6):
            words = [words_in(forms).get(pair, "-") or "." for pair in pairs_in(forms)]
            text = " ".join([*forms.rows, "/", *forms.columns, ":", *words])
            self.same(str(forms), text)
            self.assertEqual(Forms.read(text), forms)

    def test_texts_bent_at_each_item(self):
        others = NO_ITEMS + ("x", "p", "zz", "/", ":", "-", ".", "..", "abcdef", "abcdefg", "a1")
        sizes = [(3, 4), (4, 3), (1, 1)]
        for forms in some_forms(6, seed=5) + [some_forms(1, [size])[0] for size in sizes]:
            for bent in bent_texts(str(forms), others):
                self.reads(Forms.read, bent, can_stand, can_end, lambda items: True)

    def test_bent_texts(self):
        for text, item in [
                ("", 0), ("/", 0), ("x", 1), ("x /", 2), ("x / :", 2), ("x / p", 3), ("x / p :", 4), ("x / p : ", 4),
                ("x x / p : a", 1), ("x / p p : a", 3), ("x / x : a", None), ("x y z w v / p : a", 4),
                ("x y z w / p q r s : a", 8), ("x y z w / p q r : a", 10), ("x y z / p q r s t : a", 8),
                ("x / p : abcdefg", 4), ("x / p : abcdef", None), ("x / p : a1", 4), ("x / p : a b", 5),
                ("x / p q : . - a", 7), ("x / p : .a", 4), ("x / p q : .", 6), ("x / p : a ", 5), ("x : p", 1)]:
            if item is None:
                self.same(str(Forms.read(text)), text)
            else:
                self.raised(BadText(0, item), Forms.read, text)
        for value in NO_FORMS[:-4] + (["x", "/", "p", ":", "a"], Forms(["x"], ["p"], {})):
            if not isinstance(value, str):
                self.raised(BadText(0, 0), Forms.read, value)
