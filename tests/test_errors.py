import unittest

from oneflip import errors
from oneflip.errors import FlipError
from tests.tools import Case

FIELDS = {name: ("part",) for name in (
    "BadNumber", "BadWord", "BadBits", "BadMachine", "BadLayout", "BadCode", "BadPhases", "BadStore", "BadDeed",
    "BadBook", "BadPaper", "Misfit")}
FIELDS.update({"NoName": ("value",), "Twice": ("value",), "TooMany": ("what", "most"), "BadText": ("line", "item"),
               "BadLine": ("line", "error")})


class Errors(Case):
    def test_all_errors_are_there_and_no_others(self):
        made = {name for name, value in vars(errors).items() if isinstance(value, type) and value is not FlipError}
        self.assertEqual(made, set(FIELDS))

    def test_base(self):
        self.assertEqual(FlipError.__bases__, (ValueError,))

    def test_each_is_directly_below_the_base(self):
        for name in FIELDS:
            self.assertEqual(getattr(errors, name).__bases__, (FlipError,), name)

    def test_fields_by_place_and_by_name(self):
        values = ("states", 3, None, [1, [2]], 10 ** 5000, ValueError("x"), "\u00e9\ud800")
        for name, fields in FIELDS.items():
            for first in values:
                told = (first, ["other"])[:len(fields)]
                for error in (getattr(errors, name)(*told), getattr(errors, name)(**dict(zip(fields, told)))):
                    for field, value in zip(fields, told):
                        self.assertIs(getattr(error, field), value)
                    self.assertEqual(set(vars(error)), set(fields))

    def test_number_of_fields(self):
        for name, fields in FIELDS.items():
            for many in (len(fields) - 1, len(fields) + 1):
                with self.assertRaises(TypeError):
                    getattr(errors, name)(*["x"] * many)

    def test_caught_as_value_errors(self):
        with self.assertRaises(ValueError):
            raise errors.BadText(0, 3)


if __name__ == "__main__":
    unittest.main()
