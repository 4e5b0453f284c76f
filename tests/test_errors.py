"""Promise 4: the classes of errors, their arguments and attributes."""

import unittest

from skewer import errors
from skewer.errors import (
    InvalidGame, InvalidLine, InvalidMove, InvalidPosition, SkewerError, TextError, TooLarge, UnknownPosition,
)

POSITION = (0, (1, 0, 2))

# Each class with the names of its attributes, in the order of its arguments, and values for them.
CASES = [
    (TextError, ["line", "column", "reason"], [3, 14, "word"]),
    (TooLarge, ["limit"], ["positions"]),
    (InvalidMove, ["index"], [0]),
    (InvalidGame, ["reason"], ["fields"]),
    (InvalidLine, ["line"], ["a line\twith a tab"]),
    (UnknownPosition, ["position"], [POSITION]),
    (InvalidPosition, ["position"], [POSITION]),
]


class ErrorsTest(unittest.TestCase):
    def test_base_class_is_a_value_error(self):
        self.assertEqual(SkewerError.__bases__, (ValueError,))

    def test_each_class_is_directly_below_the_base_class(self):
        for kind, _, _ in CASES:
            with self.subTest(kind=kind.__name__):
                self.assertEqual(kind.__bases__, (SkewerError,))

    def test_the_file_defines_these_classes_and_no_others(self):
        found = {name for name, thing in vars(errors).items() if isinstance(thing, type)}
        self.assertEqual(found, {kind.__name__ for kind, _, _ in CASES} | {"SkewerError"})
        for name in found:
            self.assertEqual(getattr(errors, name).__module__, "skewer.errors")

    def test_arguments_become_attributes(self):
        for kind, names, values in CASES:
            with self.subTest(kind=kind.__name__):
                error = kind(*values)
                self.assertEqual([getattr(error, name) for name in names], values)

    def test_arguments_have_the_names_of_the_attributes(self):
        for kind, names, values in CASES:
            with self.subTest(kind=kind.__name__):
                error = kind(**dict(zip(names, values)))
                self.assertEqual([getattr(error, name) for name in names], values)

    def test_other_numbers_of_arguments_are_refused(self):
        for kind, _, values in CASES:
            with self.subTest(kind=kind.__name__):
                self.assertRaises(TypeError, kind, *values[:-1])
                self.assertRaises(TypeError, kind, *values, 0)

    def test_they_can_be_raised_and_caught_as_the_base_class(self):
        for kind, _, values in CASES:
            with self.subTest(kind=kind.__name__):
                with self.assertRaises(SkewerError) as caught:
                    raise kind(*values)
                self.assertIs(type(caught.exception), kind)
                self.assertIsInstance(str(caught.exception), str)

    def test_one_kind_is_not_caught_as_another_one(self):
        for kind, _, values in CASES:
            for other, _, _ in CASES:
                if other is not kind:
                    self.assertNotIsInstance(kind(*values), other)


if __name__ == "__main__":
    unittest.main()
