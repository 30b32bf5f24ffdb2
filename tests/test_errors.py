"""Point 5: the classes of errors and their fields."""

import unittest

from stylobate import errors

PLAIN = ("InvalidName", "InvalidColumns", "InvalidSize", "InvalidOptions", "NameTaken", "TooMany", "UnknownTable",
         "UnknownColumn", "UnknownGroup", "UnknownAnswer", "UnknownName", "TableFull", "TableInUse", "InvalidEncoding",
         "InvalidFile", "NoTransaction")
OTHERS = ("QueryError", "InvalidText", "InvalidRow")


class Errors(unittest.TestCase):
    def test_bases(self):
        self.assertEqual(errors.StylobateError.__bases__, (ValueError,))
        for name in PLAIN + OTHERS:
            self.assertEqual(getattr(errors, name).__bases__, (errors.StylobateError,), name)

    def test_plain_errors_are_raised_with_and_without_a_text(self):
        for name in PLAIN:
            for error in (getattr(errors, name)(), getattr(errors, name)("why")):
                with self.assertRaises(errors.StylobateError):
                    raise error

    def test_fields(self):
        for made in (errors.QueryError(7, "why"), errors.InvalidText(7, "why"),
                     errors.QueryError(offset=7, reason="why"), errors.InvalidText(offset=7, reason="why")):
            self.assertEqual((made.offset, made.reason), (7, "why"))
            self.assertIn("why", str(made))
        self.assertEqual(errors.InvalidRow(3).place, 3)
        self.assertEqual(errors.InvalidRow(place=3).place, 3)
        self.assertIn("3", str(errors.InvalidRow(3)))


if __name__ == "__main__":
    unittest.main()
