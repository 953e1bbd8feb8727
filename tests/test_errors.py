"""The errors: how they are made, what they keep, of which classes they are."""

import unittest

from bendsigns import errors
from tests.helps import ODD_VALUES, Case

FIELDS = {
    "BadNumber": ("part",), "BadFour": ("part",), "BadWord": ("part",), "BadForm": ("part",),
    "BadKind": ("part",), "BadPair": ("part",), "BadPaper": ("part",), "BadDesk": ("part",),
    "Misfit": ("part",), "Missing": ("value",), "NoPlace": ("value",), "NoName": ("value",),
    "Twice": ("value",), "Impossible": ("paper",), "TooMany": ("what", "most"), "Flat": (),
    "Nothing": (), "BadText": ("line", "item"), "BadLine": ("line", "error"),
}
BELOW_MISSING = ("NoPlace", "NoName")
OTHERS_OF_PYTHON = (LookupError, ArithmeticError, TypeError, AttributeError, RuntimeError, OSError, UnicodeError)


class Errors(Case):
    """Each error of the interface."""

    def test_fields_by_place_and_by_name(self):
        for name, fields in FIELDS.items():
            made = getattr(errors, name)
            for value in ODD_VALUES + ([1, [2]], 7):
                values = [value] + [[value]] * (len(fields) - 1)
                values = values[:len(fields)]
                for error in (made(*values), made(**dict(zip(fields, values)))):
                    self.assertEqual(set(vars(error)), set(fields))
                    for field, passed in zip(fields, values):
                        self.assertIs(getattr(error, field), passed)

    def test_fields_are_asked_for(self):
        for name, fields in FIELDS.items():
            if fields:
                self.assertRaises(TypeError, getattr(errors, name))
                self.assertRaises(TypeError, getattr(errors, name), **{field: 0 for field in fields}, other=1)

    def test_classes(self):
        self.assertEqual(errors.BendError.__bases__, (ValueError,))
        for name in FIELDS:
            base = errors.Missing if name in BELOW_MISSING else errors.BendError
            self.assertEqual(getattr(errors, name).__bases__, (base,), name)

    def test_no_other_classes(self):
        for name in FIELDS:
            made = getattr(errors, name)
            for other in FIELDS:
                allowed = other == name or (other == "Missing" and name in BELOW_MISSING)
                self.assertEqual(issubclass(made, getattr(errors, other)), allowed, (name, other))
            for other in OTHERS_OF_PYTHON:
                self.assertFalse(issubclass(made, other))

    def test_caught_as_value_error(self):
        for name, fields in FIELDS.items():
            try:
                raise getattr(errors, name)(*["x" for field in fields])
            except ValueError as error:
                self.assertIsInstance(error, errors.BendError)
                self.assertIsInstance(str(error), str)


if __name__ == "__main__":
    unittest.main()
