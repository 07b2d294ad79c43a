"""The errors [2]: their fields, what they are below, and what they are not below."""

import builtins
import unittest

from claimduel import errors
from support import ODD_VALUES

FIELDS = {
    **{name: ("part",) for name in (
        "BadNumber", "BadName", "BadForm", "BadClaim", "BadSetting", "BadLayout", "BadRow", "BadMove",
        "BadDuel", "BadBook", "BadRule", "BadProgram", "BadPaper", "Misfit")},
    "Missing": ("value",), "NoName": ("value",), "Twice": ("value",), "TooMany": ("what", "most"),
    "Nothing": (), "Over": (), "BadText": ("line", "item"), "BadLine": ("line", "error"), "DuelError": (),
}


class ErrorsTest(unittest.TestCase):
    def test_there_are_just_these(self):
        found = [name for name, value in vars(errors).items() if isinstance(value, type)]
        self.assertEqual(sorted(found), sorted(FIELDS))
        for name in found:
            self.assertEqual(getattr(errors, name).__module__, "claimduel.errors")

    def test_what_they_are_below(self):
        self.assertEqual(errors.DuelError.__bases__, (ValueError,))
        for name in FIELDS:
            if name != "DuelError":
                base = errors.Missing if name == "NoName" else errors.DuelError
                self.assertEqual(getattr(errors, name).__bases__, (base,))

    def test_no_other_error_of_pythons_own(self):
        theirs = [value for value in vars(builtins).values()
                  if isinstance(value, type) and issubclass(value, BaseException)
                  and not issubclass(ValueError, value)]
        for name in FIELDS:
            for other in theirs:
                self.assertFalse(issubclass(getattr(errors, name), other), (name, other))

    def test_fields_by_place_and_by_name(self):
        for name, fields in FIELDS.items():
            made = getattr(errors, name)
            for value in ODD_VALUES:
                values = [value, ["other", value]][:len(fields)]
                for error in (made(*values), made(**dict(zip(fields, values)))):
                    self.assertEqual(list(vars(error)), list(fields))
                    for field, kept in zip(fields, values):
                        self.assertIs(getattr(error, field), kept)

    def test_wrong_numbers_of_fields(self):
        for name, fields in FIELDS.items():
            if fields:
                with self.assertRaises(TypeError):
                    getattr(errors, name)(*range(len(fields) - 1))
                with self.assertRaises(TypeError):
                    getattr(errors, name)(*range(len(fields) + 1))

    def test_they_are_raised_and_caught(self):
        with self.assertRaises(errors.Missing) as caught:
            raise errors.NoName("x")
        self.assertEqual(caught.exception.value, "x")
        with self.assertRaises(ValueError):
            raise errors.BadLine(3, errors.Nothing())


if __name__ == "__main__":
    unittest.main()
