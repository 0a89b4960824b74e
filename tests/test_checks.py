"""The checks of any values."""

from fourthlike.checks import first_twice, is_integer, is_just, is_name, is_row, is_within, is_word
from tests.helpers import ODD_VALUES, Case


class ChecksTest(Case):
    def test_integers(self):
        for value in (0, 1, -1, 10 ** 100, -10 ** 100):
            self.is_right(True, is_integer, value)
        for value in ODD_VALUES + ("1", [1], (1,), float("nan")):
            self.is_right(False, is_integer, value)

    def test_within(self):
        self.is_right(True, is_within, 3, 3, 3)
        self.is_right(False, is_within, 2, 3, 3)
        self.is_right(False, is_within, 4, 3, 3)
        self.is_right(True, is_within, -10 ** 50, None, 3)
        self.is_right(False, is_within, 4, None, 3)
        self.is_right(True, is_within, 10 ** 50, 3, None)
        self.is_right(False, is_within, 2, 3, None)
        self.is_right(True, is_within, 0, None, None)
        self.is_right(True, is_within, 0, 0, 0)
        self.is_right(False, is_within, 0, 1, None)
        self.is_right(False, is_within, 0, None, -1)
        for value in ODD_VALUES + ("1", [1], (1,)):
            for bounds in ((None, None), (0, 1), (None, 1), (0, None)):
                self.is_right(False, is_within, value, *bounds)

    def test_names(self):
        for value in ("a", "z", "a0", "z9", "abcdefghijkl", "a" + "0" * 11):
            self.is_right(True, is_name, value)
        for value in ("", "0", "1a", "A", "aB", "a_", "a b", " a", "a ", "a\n", "a\t", "abcdefghijklm", "`", "{",
                      "a/", "a:", "a-"):
            self.is_right(False, is_name, value)
        for value in ODD_VALUES + (1, ["a"], ("a",)):
            self.is_right(False, is_name, value)

    def test_words(self):
        for value in ("", "a", "z", "abcxyz", "a" * 100000):
            self.is_right(True, is_word, value)
        for value in ("A", "a1", "0", " ", "a b", "a\n", "`", "{", "a" * 99999 + "-"):
            self.is_right(False, is_word, value)
        for value in ODD_VALUES + (1, [], ["a"], ("a",)):
            self.is_right(False, is_word, value)

    def test_rows_of_integers(self):
        for value in ([], (), [0], (0, -1, 10 ** 70), [5] * 1000):
            self.is_right(True, is_row, value)
        for value in ODD_VALUES + (1, "", "12", [True], (1, False), [1.0], [None], [[1]], ["1"]):
            self.is_right(False, is_row, value)

    def test_the_first_that_stands_twice(self):
        self.assertIsNone(first_twice([]))
        self.assertIsNone(first_twice(["a", "b", "ab"]))
        self.assertIsNone(first_twice((1, 2, -1)))
        self.assertEqual(first_twice(["b", "a", "b"]), "b")
        self.assertEqual(first_twice(["a", "b", "b", "a"]), "b")
        self.assertEqual(first_twice([3, 1, 2, 1, 3]), 1)
        self.assertEqual(first_twice((0, 0)), 0)
        self.assertIsNone(self.shortly(first_twice, list(range(100000))))

    def test_just_what_is_wanted(self):
        wanted = (1, ("a", None), (), 0)
        self.is_right(True, is_just, (1, ("a", None), (), 0), wanted)
        for value in ((True, ("a", None), (), 0), (1, ("a", None), (), False), (1.0, ("a", None), (), 0),
                      (1, ("a", 0), (), 0), (1, ("b", None), (), 0), (1, ("a", None), None, 0), (1, ("a", None), ()),
                      [1, ("a", None), (), 0], None, (1, "a", (), 0)):
            self.is_right(False, is_just, value, wanted)
