"""Points 11 and 12: limits, rounding, integers and decimals as texts."""

import fractions
import unittest

from stylobate.values.decimals import (GREATEST, decimal_text, limited, quotient, read_decimal,
                                       read_integer, rounded)
from stylobate.values.operations import unary


class Numbers(unittest.TestCase):
    def test_limited(self):
        self.assertEqual(GREATEST, 10 ** 15)
        for number in (0, 1, -1, GREATEST, -GREATEST):
            self.assertEqual(limited(number), number)
        for number in (GREATEST + 1, -GREATEST - 1, 10 ** 40, -10 ** 40):
            self.assertIsNone(limited(number))

    def test_rounded_and_quotient(self):
        for number in list(range(-40, 41)) + [10 ** 30 + 5, -10 ** 30 - 5]:
            for divisor in [d for d in range(-11, 12) if d != 0] + [10 ** 29, -10 ** 29]:
                exact = fractions.Fraction(number, divisor)
                size = (abs(exact) + fractions.Fraction(1, 2)).__floor__()
                self.assertEqual(rounded(number, divisor), size if exact >= 0 else -size)
                self.assertEqual(quotient(number, divisor), exact.__trunc__())

    def test_halves_go_away_from_zero(self):
        self.assertEqual([rounded(n, 2) for n in (1, -1, 3, -3, 5, -5)], [1, -1, 2, -2, 3, -3])
        self.assertEqual([rounded(n, -2) for n in (1, -1, 3, -3)], [-1, 1, -2, 2])
        self.assertEqual([quotient(*p) for p in ((7, 2), (-7, 2), (7, -2), (-7, -2))], [3, -3, -3, 3])


class Texts(unittest.TestCase):
    def test_decimal_text(self):
        told = {125000: "12.5", -500: "-0.05", 30000: "3", 0: "0", 1: "0.0001", -1: "-0.0001",
                10: "0.001", 100: "0.01", 1000: "0.1", 10000: "1", -10000: "-1", 123456: "12.3456",
                -1200: "-0.12", 10 ** 15: "100000000000", -10 ** 15 + 1: "-99999999999.9999"}
        for number, text in told.items():
            self.assertEqual(decimal_text(number), text)
            self.assertEqual(read_decimal(text), number)
            self.assertEqual(unary("decimal to text", number), text)

    def test_read_integer(self):
        told = {"0": 0, "-0": 0, "00": 0, "7": 7, "-7": -7, "007": 7, "-007": -7,
                str(10 ** 15): 10 ** 15, "-" + str(10 ** 15): -10 ** 15, "0" * 9000 + "12": 12,
                "-" + "0" * 9999: 0}
        for text, number in told.items():
            self.assertEqual(read_integer(text), number, text[-20:])
            self.assertEqual(unary("text to int", text), number)
        for text in ("", "-", "--1", "+1", " 1", "1 ", "1.0", "1-", "a", "1a", "1_0", str(10 ** 15 + 1),
                     "-" + str(10 ** 15 + 1), "9" * 10000, "-" + "9" * 5000, "1 1", ".", "0x1"):
            self.assertIsNone(read_integer(text), text[-20:])
            self.assertIsNone(unary("text to int", text))

    def test_read_decimal(self):
        told = {"0": 0, "-0": 0, "-0.0": 0, "3": 30000, "12.5": 125000, "-0.05": -500, "0.0001": 1,
                "1.0000": 10000, "0012.50": 125000, "100000000000": 10 ** 15,
                "-100000000000.0000": -10 ** 15, "0" * 9000 + "1.5": 15000, "99999999999.9999": 10 ** 15 - 1}
        for text, number in told.items():
            self.assertEqual(read_decimal(text), number, text[-20:])
            self.assertEqual(unary("text to decimal", text), number)
        for text in ("", "-", ".", "1.", ".5", "-.5", "1.00000", "1.2.3", "1,5", "+1", " 1", "1 ", "1.5 ",
                     "100000000000.0001", "-100000000000.0001", "100000000001", "9" * 10000, "1.-5",
                     "--1", "1e3", "a", "1.a", "1..5"):
            self.assertIsNone(read_decimal(text), text[-20:])
            self.assertIsNone(unary("text to decimal", text))


if __name__ == "__main__":
    unittest.main()
