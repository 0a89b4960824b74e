"""What several tests use."""

import time
import unittest

from fourthlike.papers import Denial, Paper

# Values that are no integer, no string, no list, and nothing of the package; True and False are no integers.
ODD_VALUES = (None, True, False, 1.0, b"a", {}, {1: 2}, object(), Paper("note"), Denial("note"), int, set())
# Values that stand for nothing that a list of values of the package has.
NO_NUMBERS = ODD_VALUES + ("", "1", [], [1], (1,))
NO_LISTS = ODD_VALUES + (0, 1, -1)


class Case(unittest.TestCase):
    """A test case that looks at errors with their fields, and at the time that answers take."""

    def raised(self, wanted, call, *args, **more):
        """Fails unless the call raises an error of just the wanted class with just its fields."""
        try:
            found = call(*args, **more)
        except type(wanted) as error:
            self.assertIs(type(error), type(wanted))
            self.same(vars(error), vars(wanted))
        else:
            self.fail(f"{call} of {args!r} returned {found!r}, and raised no {type(wanted).__name__}")

    def same(self, found, wanted):
        """Fails unless both are equal, and True and False are no numbers."""
        self.assertEqual(found, wanted)
        self.assertEqual(repr(found), repr(wanted))

    def is_right(self, wanted, call, *args):
        """Fails unless the call returns just True or just False, as wanted."""
        self.assertIs(call(*args), wanted, f"{args!r}")

    def shortly(self, call, *args):
        """What the call returns, which must come within a second."""
        start = time.perf_counter()
        found = call(*args)
        self.assertLess(time.perf_counter() - start, 1.0)
        return found
