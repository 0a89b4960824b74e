"""Papers: what all of them have alike."""

import inspect
import pkgutil
from importlib import import_module

import fourthlike
from fourthlike.papers import Denial, Paper, fixed
from tests.helpers import Case

# The class, its parameters, and whether it is a denial.
KINDS = {
    "likenesses": [("Fourth", "row", False), ("NoFourth", "place", True), ("Nearest", "price choices", False)],
    "lots": [("Closed", "rows reasons", False), ("Leak", "numbers row", True)],
    "makers": [("Makers", "rows closed", False)],
    "powers": [("Whole", "number", False), ("NoWhole", "low", True)],
    "between": [("ByPower", "power", False), ("Between", "low", True)],
    "numberrows": [("Uneven", "step", True)],
    "layings": [("Pieces", "kinds fours", False), ("Unlaid", "places", True), ("Laid", "indexes", False),
                ("NotLaid", "at", True)],
    "fourthwords": [("NoWord", "spots", True)],
    "patterns": [("Shared", "pattern mine its", False)],
    "termfourths": [("Bearing", "p q mine its", False), ("NoTerm", "hole", True)],
    "latticelike": [("Apart", "sides", True)],
    "distributive": [("Distributive", "sets", False), ("Five", "kind names", True)],
    "setlike": [("FourthSet", "names", False), ("Outside", "name", True)],
    "ways": [("Way", "moves", False), ("NoWay", "things", True), ("NoShared", "lots", True)],
    "bests": [("Compared", "one other lots", False)],
    "carryings": [("Carrying", "table", False)],
    "rules": [("Adder", "places constant", False)],
    "misled": [("Misled", "a b c d", True)],
    "nearadders": [("Near", "many adders", False)],
    "answers": [("Fits", "adder", False), ("Quarrel", "numbers", True), ("Forced", "outcome numbers", False),
                ("Open", "one other", False)],
    "likely": [("Likely", "rows", False), ("Clash", "row one other", True)],
    "struck": [("Struck", "numbers adder", False)],
    "weights": [("Follows", "weights", False), ("Breaks", "rests by", True), ("Times", "number weights", False),
                ("Never", "numbers", True), ("Needed", "numbers weights", False)],
    "rests": [("AllUnlike", "papers", False), ("Same", "one other weights", True)],
    "deeds": [("Deeds", "rows", False), ("NoDeeds", "fours", True)],
    "gaps": [("FreeGap", "", False), ("ForcedForm", "form", False), ("OpenForm", "forms", False),
             ("Torn", "sources", True)],
    "mended": [("Filled", "cells left", False), ("Slips", "cells", False), ("NoSlips", "most", True),
               ("Enough", "cells", False)],
    "stems": [("Stems", "stems endings", False), ("Unstemmed", "row column", True)],
    "doings": [("Agreed", "names", False), ("Parting", "places names", True)],
    "orderlots": [("ClosedOrders", "orders reasons", False), ("OrderMakers", "orders", False)],
    "taught": [("Taught", "places names", False), ("Untaught", "places names", True)],
    "chains": [("Far", "", False), ("Part", "one other", True)],
}
CLASSES = [(getattr(import_module("fourthlike." + file), name), fields.split(), denies)
           for file, kinds in KINDS.items() for name, fields, denies in kinds]
VALUES = (1, True, None, "a", -5, 2.5, [1, [2, (3, [4])]], [], object, Paper("note", 1))


class PapersTest(Case):
    def test_fixed(self):
        self.same(fixed([1, [None, (2, [])], "a"]), (1, (None, (2, ())), "a"))
        self.same(fixed(([], ([[]],))), ((), (((),),)))
        for value in (1, True, None, "ab", 2.5):
            self.same(fixed(value), value)
        for value in ({"a": [1]}, object(), Paper("note")):
            self.assertIs(fixed(value), value)
        deep = []
        wanted = ()
        for number in range(59):
            deep = [deep, number]
            wanted = (wanted, number)
        self.same(fixed(deep), wanted)

    def test_fixed_keeps_what_is_passed(self):
        inner = [2]
        told = [1, inner]
        found = fixed(told)
        told.append(3)
        inner.append(3)
        self.same(found, (1, (2,)))

    def test_plain_papers(self):
        for made, truth in ((Paper, True), (Denial, False)):
            paper = made("note", 1, [2, [3]])
            self.assertEqual(paper.word, "note")
            self.same(paper.parts, (1, (2, (3,))))
            self.assertIs(bool(paper), truth)
            self.same(made("note").parts, ())
            self.assertEqual(made("note", [1]), made("note", (1,)))
            self.assertNotEqual(made("note", 1), made("note", 2))
            self.assertNotEqual(made("note", 1), made("other", 1))
            self.assertNotEqual(made("note", 1), made("note", 1, 1))
            self.assertNotEqual(made("note", 1), ("note", 1))
            self.assertFalse(made("note") == None)  # noqa: E711
        self.assertNotEqual(Paper("note", 1), Denial("note", 1))
        self.assertNotEqual(Denial("note", 1), Paper("note", 1))
        self.assertEqual(Paper(word="note"), Paper("note"))

    def test_all_classes_of_papers(self):
        for made, fields, denies in CLASSES:
            for value in VALUES:
                values = ([value] + [at for at in range(1, len(fields))])[:len(fields)]
                for paper in (made(*values), made(**dict(zip(fields, values)))):
                    self.assertEqual(paper.word, made.__name__.lower())
                    self.assertEqual(paper.parts, fixed(values))
                    self.assertEqual(repr(paper.parts[1:]), repr(fixed(values[1:])))
                    for field, one in zip(fields, values):
                        self.assertEqual(getattr(paper, field), fixed(one))
                    self.assertIsInstance(paper, Denial if denies else Paper)
                    self.assertEqual(isinstance(paper, Denial), denies)
                    self.assertIs(bool(paper), not denies)
                self.assertEqual(made(*values), made(**dict(zip(fields, values))))
            self.same(made(*([[[1], [2]]] * len(fields))).parts, (((1,), (2,)),) * len(fields))

    def test_papers_keep_no_list(self):
        for made, fields, _ in CLASSES:
            inner = [1]
            told = [0, inner]
            paper = made(*([told] * len(fields)))
            told.append(2)
            inner.append(2)
            self.same(paper.parts, ((0, (1,)),) * len(fields))

    def test_equality_within_and_across_classes(self):
        for number, (made, fields, denies) in enumerate(CLASSES):
            values = list(range(len(fields)))
            self.assertTrue(made(*values) == made(*values))
            if fields:
                self.assertFalse(made(*values) == made(*values[:-1], 9))
            self.assertFalse(made(*values) != made(*values))
            self.assertFalse(made(*values) == (Denial if denies else Paper)(made.__name__.lower(), *values))
            self.assertFalse(made(*values) == made.__name__.lower())
            for other, others, _ in CLASSES[:number]:
                self.assertFalse(made(*values) == other(*range(len(others))))

    def test_every_paper_of_the_package_is_looked_at(self):
        found = set()
        for file in pkgutil.iter_modules(fourthlike.__path__):
            for name, value in vars(import_module("fourthlike." + file.name)).items():
                if inspect.isclass(value) and issubclass(value, Paper):
                    found.add(name)
        self.assertEqual(found, {made.__name__ for made, _, _ in CLASSES} | {"Paper", "Denial"})
