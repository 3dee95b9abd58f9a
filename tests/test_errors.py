"""The errors: points 2 and 3, and the interface."""

import unittest

from leastkeep import errors

FIELDS = {
    "NoProgram": ("part", "index"), "NoRow": ("row",), "NoState": ("index",), "NoRun": ("index",),
    "NoCode": ("row", "part", "index"), "NotOver": ("row",), "NoPaper": ("part", "index"), "NoForm": ("index",),
    "NoRound": (), "NoCount": ("part",), "NoText": ("line",), "NoRows": ("part", "index"),
    "NoAutomaton": ("index",), "NoCalls": ("function", "part", "index"), "NoFunction": ("function",),
    "NoRecipe": ("index",), "NoGuess": ("index",), "Refused": ("index",), "NoGuessCode": ("part", "index"),
    "NoNumber": ("number",), "NoKept": (),
}


class Errors(unittest.TestCase):
    def test_base(self):
        self.assertEqual(errors.KeepError.__bases__, (ValueError,))

    def test_each_derives_directly(self):
        for name in FIELDS:
            self.assertEqual(getattr(errors, name).__bases__, (errors.KeepError,), name)

    def test_fields_by_position_and_by_name(self):
        for name, fields in FIELDS.items():
            made = getattr(errors, name)
            values = [object() for _ in fields]
            for error in (made(*values), made(**dict(zip(fields, values)))):
                for field, value in zip(fields, values):
                    self.assertIs(getattr(error, field), value)

    def test_fields_are_kept_as_they_are(self):
        for value in (None, True, -1, "x", [1], {}, 10 ** 40, errors.NoKept()):
            self.assertIs(errors.NoRow(value).row, value)
            self.assertIs(errors.NoProgram(value, value).part, value)
            self.assertIs(errors.NoProgram(index=value, part=1).index, value)

    def test_they_are_caught_by_their_bases(self):
        for base in (errors.NoRow, errors.KeepError, ValueError):
            with self.assertRaises(base):
                raise errors.NoRow(3)


if __name__ == "__main__":
    unittest.main()
