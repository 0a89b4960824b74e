"""The examples that the document prints, in examples.txt, each with the names that earlier ones made."""

import os
import pkgutil
from importlib import import_module

import fourthlike
from fourthlike import errors
from tests.helpers import Case

EXAMPLES = os.path.join(os.path.dirname(os.path.abspath(__file__)), "examples.txt")


def names_of_package():
    """All names of the modules of the package."""
    found = {}
    for file in pkgutil.iter_modules(fourthlike.__path__):
        found.update(vars(import_module("fourthlike." + file.name)))
    return found


def read_examples():
    """The pairs of a line that is run, and the line that tells what comes of it, None if there is none."""
    with open(EXAMPLES, encoding="ascii") as file:
        lines = [line for line in file.read().splitlines() if line and not line.startswith("## ")]
    found = []
    for line, after in zip(lines, lines[1:] + [">>> "]):
        if line.startswith(">>> "):
            found.append((line[4:], None if after.startswith(">>> ") else after))
    return found


class ExamplesTest(Case):
    def test_examples(self):
        names = names_of_package()
        looked_at = 0
        for line, wanted in read_examples():
            with self.subTest(line=line):
                if wanted is None:
                    exec(line, names)
                elif wanted.startswith("raises "):
                    self.raised(eval(wanted[len("raises "):], dict(vars(errors))), eval, line, names)
                    looked_at += 1
                else:
                    self.same(eval(line, names), eval(wanted))
                    looked_at += 1
        self.assertGreaterEqual(looked_at, 98)

    def test_every_line_of_the_examples_is_run(self):
        with open(EXAMPLES, encoding="ascii") as file:
            lines = [line for line in file.read().splitlines() if line and not line.startswith("## ")]
        found = read_examples()
        self.assertEqual(len(lines), len(found) + sum(wanted is not None for _, wanted in found))
