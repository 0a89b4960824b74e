"""The errors."""

import inspect

from fourthlike import errors
from fourthlike.errors import LikeError, Missing, Nothing
from tests.helpers import Case

FIELDS = {
    ("part",): "BadRow BadWord BadTerm BadPattern BadLattice BadWorld BadRule BadBook BadTold BadForms BadOrder"
               " BadNumber BadPaper BadDesk Misfit",
    ("value",): "Missing NoThing NoMove NoPlace NoCase NoHole NoName Twice",
    ("names",): "Ring",
    ("one", "other", "side"): "NoBound",
    ("paper",): "Impossible",
    ("what", "most"): "TooMany",
    (): "Nothing",
    ("line", "item"): "BadText",
    ("line", "error"): "BadLine",
}
BELOW_MISSING = "NoThing NoMove NoPlace NoCase NoHole NoName".split()
ALL = [(getattr(errors, name), fields) for fields, names in FIELDS.items() for name in names.split()]


class ErrorsTest(Case):
    def test_every_error_is_there_and_no_other(self):
        found = {name for name, value in vars(errors).items() if inspect.isclass(value)}
        self.assertEqual(found, {error.__name__ for error, _ in ALL} | {"LikeError"})

    def test_bases(self):
        self.assertEqual(LikeError.__bases__, (ValueError,))
        for error, _ in ALL:
            wanted = Missing if error.__name__ in BELOW_MISSING else LikeError
            self.assertEqual(error.__bases__, (wanted,))

    def test_fields_by_place_and_by_name(self):
        for error, fields in ALL:
            for value in (1, True, None, [1, [2]], "a", LikeError()):
                values = [(value, at) for at in range(len(fields))]
                self.assertEqual(vars(error(*values)), dict(zip(fields, values)))
                self.assertEqual(vars(error(**dict(zip(fields, values)))), dict(zip(fields, values)))

    def test_fields_are_needed(self):
        for error, fields in ALL:
            if fields:
                for wrong in (len(fields) - 1, len(fields) + 1):
                    with self.assertRaises(TypeError):
                        error(*range(wrong))

    def test_they_can_be_raised_and_caught(self):
        for error, fields in ALL:
            with self.assertRaises(LikeError) as caught:
                raise error(*range(len(fields)))
            self.assertIs(type(caught.exception), error)
            str(caught.exception)
        self.assertIsInstance(Nothing(), ValueError)
