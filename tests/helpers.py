"""What several tests use."""

import re
import time
import unittest

from fourthlike.errors import BadText, LikeError
from fourthlike.papers import Denial, Paper

# Values that are no integer, no string, no list, and nothing of the package; True and False are no integers.
ODD_VALUES = (None, True, False, 1.0, b"a", {}, {1: 2}, object(), Paper("note"), Denial("note"), int, set())
# Values that stand for nothing that a list of values of the package has.
NO_NUMBERS = ODD_VALUES + ("", "1", [], [1], (1,))
NO_LISTS = ODD_VALUES + (0, 1, -1)


NO_NAMES = ODD_VALUES + (0, 1, "", "1a", "A", "aB", "a b", "a\n", "a_", "abcdefghijklm", [], (), ["a"], ("a",))
# Items that stand in no text of the package.
NO_ITEMS = ("", "A", "-1", "+1", "01", "a\n", "\t", "abcdefghijklm", "1" * 61, "%", "a.b", "0.0")


def plain(value):
    """The value with each paper in it as its class and its parts, each error as its class and its fields."""
    if isinstance(value, Paper):
        return [type(value), plain(value.parts)]
    if isinstance(value, LikeError):
        return [type(value), plain(vars(value))]
    if type(value) in (list, tuple):
        return type(value)(plain(one) for one in value)
    if type(value) is dict:
        return {key: plain(value[key]) for key in value}
    return value


def looks_like_name(item):
    """Whether the string is a name, by the words of the document."""
    return re.fullmatch("[a-z][a-z0-9]{0,11}", item) is not None and not item.endswith("\n")


def bent_texts(text, others):
    """The text with each item exchanged for each of others, left out, doubled, with each put in, and cut off."""
    items = text.split(" ")
    found = [text, text + " ", " " + text, text + "\n", " ".join(items + items)]
    for at in range(len(items) + 1):
        found.append(" ".join(items[:at]))
        for other in others:
            found.append(" ".join(items[:at] + [other] + items[at:]))
            found.append(" ".join(items[:at] + [other] + items[at + 1:]))
            found.append(" ".join(items[:at] + [other]))
    for at in range(len(items)):
        found.append(" ".join(items[:at] + items[at + 1:]))
        found.append(" ".join(items[:at + 1] + items[at:]))
        found.append(" ".join(items[:at] + items[at + 1:at + 2] + [items[at]] + items[at + 2:]))
    return found


def bent_values(value, others):
    """The value, of tuples within tuples, bent at each place in it, each once: exchanged for each of others.

    Items of tuples are left out, doubled, exchanged with the next one, and put behind.
    """
    found = list(others)
    if isinstance(value, tuple):
        for at, one in enumerate(value):
            found.extend(value[:at] + (bent,) + value[at + 1:] for bent in bent_values(one, others))
            found.append(value[:at] + value[at + 1:])
            found.append(value[:at + 1] + value[at:])
            found.append(value[:at] + value[at + 1:at + 2] + (one,) + value[at + 2:])
        found.extend(value + (other,) for other in others)
    return found


def bent_papers(paper, others):
    """Papers of the paper's class with its parts bent one by one, all else left."""
    parts = paper.parts
    return [type(paper)(*parts[:at], bent, *parts[at + 1:])
            for at, part in enumerate(parts) for bent in bent_values(part, others)]


def first_wrong(items, can_stand, can_end, is_whole):
    """The index that BadText tells for a text, None for a right one."""
    for at, item in enumerate(items):
        if not can_stand(items[:at], item):
            return at
    if not can_end(items):
        return len(items)
    return None if is_whole(items) else len(items) - 1


class Case(unittest.TestCase):
    """A test case that looks at errors with their fields, and at the time that answers take."""

    def raised(self, wanted, call, *args, **more):
        """Fails unless the call raises an error of just the wanted class with just its fields."""
        try:
            found = call(*args, **more)
        except type(wanted) as error:
            self.assertIs(type(error), type(wanted))
            self.same(plain(vars(error)), plain(vars(wanted)))
        else:
            self.fail(f"{call} of {args!r} returned {found!r}, and raised no {type(wanted).__name__}")

    def same(self, found, wanted):
        """Fails unless both are equal, and True and False are no numbers."""
        self.assertEqual(found, wanted)
        self.assertEqual(repr(plain(found)), repr(plain(wanted)))

    def reads(self, read, text, can_stand, can_end, is_whole):
        """Fails unless read takes just the texts that are right, and tells the first wrong item of others."""
        at = first_wrong(text.split(" "), can_stand, can_end, is_whole)
        if at is None:
            self.same(str(read(text)), text)
        else:
            self.raised(BadText(0, at), read, text)

    def is_right(self, wanted, call, *args):
        """Fails unless the call returns just True or just False, as wanted."""
        self.assertIs(call(*args), wanted, f"{args!r}")

    def shortly(self, call, *args):
        """What the call returns, which must come within a second."""
        start = time.perf_counter()
        found = call(*args)
        self.assertLess(time.perf_counter() - start, 1.0)
        return found
