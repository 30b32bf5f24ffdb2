"""Points 11 to 14: every operation of the three tables."""

import calendar
import datetime
import unittest

from stylobate.values.operations import BINARY, TERNARY, UNARY, binary, ternary, unary
from tests.samples import LIMIT, is_exactly

FIRST, LAST = -719162, 2932896
STRANGE = (None, True, False, 0, 5, -5, LIMIT + 1, FIRST - 1, LAST + 1, 20000, "", "a", "2000-01-01", "12")
LONG = "x" * 10000

INTEGERS = ("negate", "abs", "sign", "as decimal", "to decimal", "to int", "int to text", "decimal to text")
DATES = ("year", "month", "day", "weekday", "month start", "year start", "week start", "as date",
         "date to text")
TEXTS = ("lower", "upper", "length", "trim", "text to int", "text to decimal", "text to date")
PAIRS_OF_INTEGERS = ("add", "subtract", "multiply", "divide", "rest", "multiply decimals", "divide decimals")


def day(text):
    return datetime.date.fromisoformat(text).toordinal() - datetime.date(1970, 1, 1).toordinal()


def whole(value):
    return isinstance(value, int) and not isinstance(value, bool)


class Names(unittest.TestCase):
    def test_in_the_order_of_the_tables(self):
        self.assertEqual(UNARY, (
            "not", "negate", "abs", "sign", "is null", "lower", "upper", "length", "trim", "year", "month",
            "day", "weekday", "month start", "year start", "week start", "as date", "as decimal",
            "to decimal", "to int", "int to text", "decimal to text", "date to text", "text to int",
            "text to decimal", "text to date"))
        self.assertEqual(BINARY, (
            "and", "or", "equal", "less", "at most", "same", "least", "greatest", "add", "subtract",
            "multiply", "divide", "rest", "multiply decimals", "divide decimals", "join", "like",
            "position", "coalesce", "add days", "add months"))
        self.assertEqual(TERNARY, ("part", "split", "replace", "pad"))


class One(unittest.TestCase):
    def check(self, name, pairs):
        for value, wanted in pairs:
            self.assertTrue(is_exactly(unary(name, value), wanted), (name, value, unary(name, value)))

    def test_what_is_not_needed(self):
        for value in STRANGE:
            for name in INTEGERS:
                self.assertIs(unary(name, value) is None, not whole(value) or
                              (name == "to decimal" and abs(value) > LIMIT // 10000), (name, value))
            for name in DATES:
                self.assertIs(unary(name, value) is None, not (whole(value) and FIRST <= value <= LAST))
            for name in TEXTS[:4]:
                self.assertIs(unary(name, value) is None, not isinstance(value, str))
            for name in TEXTS[4:]:
                if not isinstance(value, str):
                    self.assertIsNone(unary(name, value))

    def test_is_null(self):
        for value in STRANGE:
            self.assertIs(unary("is null", value), value is None)

    def test_integers(self):
        self.check("negate", [(5, -5), (-5, 5), (0, 0), (10 ** 20, -10 ** 20)])
        self.check("abs", [(5, 5), (-5, 5), (0, 0), (-10 ** 20, 10 ** 20)])
        self.check("sign", [(5, 1), (-5, -1), (0, 0), (10 ** 20, 1), (-LIMIT, -1)])
        self.check("as decimal", [(5, 5), (-10 ** 20, -10 ** 20)])
        self.check("to decimal", [(5, 50000), (-5, -50000), (10 ** 11, LIMIT), (-10 ** 11, -LIMIT),
                                  (10 ** 11 + 1, None), (-10 ** 11 - 1, None)])
        self.check("to int", [(50000, 5), (14999, 1), (15000, 2), (-15000, -2), (-14999, -1), (4999, 0),
                              (5000, 1), (-5000, -1), (10 ** 30, 10 ** 26)])
        self.check("int to text", [(0, "0"), (-12, "-12"), (10 ** 20, "1" + "0" * 20), (10 ** 900, "1" + "0" * 900)])
        self.check("decimal to text", [(125000, "12.5"), (-500, "-0.05"), (30000, "3"), (0, "0")])

    def test_texts(self):
        self.check("lower", [("aBZ[@`z", "abz[@`z"), ("", "")])
        self.check("upper", [("aBZ{@`z", "ABZ{@`Z"), ("", "")])
        self.check("length", [("", 0), ("abc", 3), (LONG, 10000)])
        self.check("trim", [("  a b  ", "a b"), ("   ", ""), ("", ""), ("\ta\n ", "\ta\n"), ("a", "a"), (" _a_ ", "_a_")])
        self.check("text to int", [("12", 12), ("-012", -12), ("", None), ("1.0", None)])
        self.check("text to decimal", [("1.5", 15000), ("1.", None), ("-0.0001", -1)])
        self.check("text to date", [("1970-01-02", 1), ("1970-1-2", None), ("2026-02-29", None)])

    def test_dates(self):
        self.check("weekday", [(0, 4), (-1, 3), (3, 7), (4, 1), (FIRST, 1), (LAST, 5)])
        self.check("week start", [(0, -3), (FIRST, FIRST), (FIRST + 6, FIRST), (4, 4)])
        self.check("month start", [(31, 31), (58, 31), (LAST, LAST - 30), (FIRST, FIRST)])
        self.check("year start", [(364, 0), (365, 365), (FIRST, FIRST), (-1, -365)])
        self.check("as date", [(FIRST, FIRST), (LAST, LAST), (FIRST - 1, None), (LAST + 1, None)])
        self.check("date to text", [(0, "1970-01-01"), (FIRST, "0001-01-01"), (LAST, "9999-12-31")])


class Two(unittest.TestCase):
    def check(self, name, triples):
        for first, second, wanted in triples:
            told = binary(name, first, second)
            self.assertTrue(is_exactly(told, wanted), (name, str(first)[:50], str(second)[:50], told))

    def test_what_is_not_needed(self):
        for first in STRANGE:
            for second in STRANGE:
                numbers = whole(first) and whole(second)
                texts = isinstance(first, str) and isinstance(second, str)
                booleans = isinstance(first, bool) and isinstance(second, bool)
                for name in ("equal", "less", "at most", "least", "greatest"):
                    told = binary(name, first, second)
                    self.assertIs(told is None, not (numbers or texts or booleans), (name, first, second))
                for name in PAIRS_OF_INTEGERS:
                    if not numbers:
                        self.assertIsNone(binary(name, first, second), (name, first, second))
                for name in ("join", "like", "position"):
                    self.assertIs(binary(name, first, second) is None, not texts)
                for name in ("add days", "add months"):
                    if not (whole(first) and FIRST <= first <= LAST and whole(second)):
                        self.assertIsNone(binary(name, first, second), (name, first, second))
                self.assertIs(binary("same", first, second), is_exactly(first, second))
                self.assertTrue(is_exactly(binary("coalesce", first, second),
                                           second if first is None else first))

    def test_comparisons(self):
        self.check("equal", [(1, 1, True), (1, 2, False), (True, True, True), ("a", "a", True), ("a", "A", False),
                             (True, 1, None), (None, None, None), (0, False, None), (10 ** 30, 10 ** 30, True)])
        self.check("less", [(1, 2, True), (2, 2, False), (False, True, True), (True, False, False),
                            ("a", "ab", True), ("b", "ab", False), ("Z", "a", True), (1, "a", None)])
        self.check("at most", [(2, 2, True), (3, 2, False), ("", "", True), (True, True, True), (False, 0, None)])
        self.check("same", [(None, None, True), (True, 1, False), (0, False, False), (1, 1, True), ("", None, False)])
        self.check("least", [(2, 1, 1), (1, 2, 1), ("b", "a", "a"), (True, False, False), (1, True, None)])
        self.check("greatest", [(2, 1, 2), (1, 2, 2), ("b", "a", "b"), (True, False, True), (None, 1, None)])

    def test_arithmetic(self):
        self.check("add", [(1, 2, 3), (LIMIT, 0, LIMIT), (LIMIT, 1, None), (-LIMIT, -1, None), (10 ** 20, -10 ** 20, 0)])
        self.check("subtract", [(1, 2, -1), (-LIMIT, 1, None), (LIMIT, LIMIT, 0), (LIMIT, -1, None)])
        self.check("multiply", [(6, -7, -42), (10 ** 8, 10 ** 7, LIMIT), (10 ** 8, 10 ** 8, None), (-LIMIT, 1, -LIMIT)])
        self.check("divide", [(7, 2, 3), (-7, 2, -3), (7, -2, -3), (-7, -2, 3), (1, 0, None), (0, 5, 0),
                              (10 ** 16, 10, LIMIT), (10 ** 17, 10, None)])
        self.check("rest", [(7, 2, 1), (-7, 2, -1), (7, -2, 1), (-7, -2, -1), (1, 0, None), (6, 3, 0),
                            (10 ** 20 + 3, 10 ** 20, 3), (10 ** 18, 10 ** 19, None)])
        self.check("multiply decimals", [(15000, 15000, 22500), (1, 5000, 1), (1, 4999, 0), (-1, 5000, -1),
                                         (LIMIT, 10000, LIMIT), (LIMIT, 10001, None), (-1, -5000, 1)])
        self.check("divide decimals", [(10000, 30000, 3333), (20000, 30000, 6667), (-20000, 30000, -6667),
                                       (1, 20000, 1), (-1, 20000, -1), (1, 20001, 0), (1, 0, None),
                                       (LIMIT, 10000, LIMIT), (LIMIT, 9999, None), (-1, -20000, 1)])

    def test_texts(self):
        self.check("join", [("a", "b", "ab"), ("", "", ""), (LONG, "", LONG), (LONG, "y", None),
                            ("y", LONG[1:], "y" + LONG[1:])])
        self.check("like", [("abc", "a*", True), ("abc", "?b?", True), ("abc", "a", False), ("a\\", "a\\", True)])
        self.check("position", [("abcabc", "bc", 2), ("abc", "x", 0), ("abc", "", 1), ("", "", 1), ("", "a", 0),
                                ("aab", "ab", 2)])

    def test_dates(self):
        self.check("add days", [(0, 5, 5), (0, -5, -5), (LAST, 1, None), (FIRST, -1, None), (FIRST, 0, FIRST),
                                (FIRST, LAST - FIRST, LAST), (0, 10 ** 40, None), (True, 1, None), (1, True, None)])
        self.check("add months", [
            (day("2026-01-31"), 1, day("2026-02-28")), (day("2024-01-31"), 1, day("2024-02-29")),
            (day("2024-02-29"), 12, day("2025-02-28")), (day("2026-03-31"), -1, day("2026-02-28")),
            (day("2026-01-15"), -1, day("2025-12-15")), (day("2026-12-31"), 2, day("2027-02-28")),
            (LAST, 1, None), (LAST, 0, LAST), (FIRST, -1, None), (FIRST, 0, FIRST),
            (FIRST, 119987, day("9999-12-01")), (FIRST, 119988, None), (LAST, -119987, day("0001-01-31")),
            (0, 10 ** 40, None), (0, -10 ** 40, None), (FIRST - 1, 5, None)])

    def test_months_by_the_calendar(self):
        for text in ("2000-01-31", "1999-12-30", "2023-05-29", "1900-01-29"):
            start = datetime.date.fromisoformat(text)
            for many in range(-60, 61):
                years, month = divmod(start.month - 1 + many, 12)
                year = start.year + years
                last = calendar.monthrange(year, month + 1)[1]
                wanted = datetime.date(year, month + 1, min(start.day, last)).isoformat()
                self.assertEqual(binary("add months", day(text), many), day(wanted))


class Three(unittest.TestCase):
    def check(self, name, cases):
        for first, second, third, wanted in cases:
            told = ternary(name, first, second, third)
            self.assertTrue(is_exactly(told, wanted), (name, str(first)[:30], second, third, str(told)[:30]))

    def test_what_is_not_needed(self):
        for wrong in (None, True, False, "a", 5):
            if not whole(wrong):
                self.check("part", [("abc", wrong, 1, None), ("abc", 1, wrong, None)])
                self.check("split", [("abc", "b", wrong, None)])
                self.check("pad", [("abc", "b", wrong, None)])
            if not isinstance(wrong, str):
                self.check("part", [(wrong, 1, 1, None)])
                self.check("split", [(wrong, "b", 1, None), ("abc", wrong, 1, None)])
                self.check("pad", [(wrong, "b", 1, None), ("abc", wrong, 1, None)])
                self.check("replace", [(wrong, "b", "c", None), ("abc", wrong, "c", None), ("abc", "b", wrong, None)])

    def test_part(self):
        for start in range(-6, 8):
            for count in range(0, 9):
                wanted = "".join(sign for at, sign in enumerate("abcd", 1) if start <= at < start + count)
                self.check("part", [("abcd", start, count, wanted)])
        self.check("part", [("abcd", 1, -1, None), ("abcd", -9, -9, None), ("", 1, 5, ""), ("abcd", 2, 10 ** 30, "bcd"),
                            ("abcd", -10 ** 30, 10 ** 30 + 3, "ab"), ("abcd", 10 ** 30, 5, ""), (LONG, 1, 10000, LONG)])

    def test_split(self):
        self.check("split", [("a,b,,c", ",", 1, "a"), ("a,b,,c", ",", 3, ""), ("a,b,,c", ",", 4, "c"),
                             ("a,b,,c", ",", 5, None), ("a,b", ",", 0, None), ("a,b", ",", -1, None),
                             ("abc", "", 1, "abc"), ("abc", "", 2, None), ("abc", "x", 1, "abc"), ("", "x", 1, ""),
                             ("aaa", "aa", 2, "a"), ("abc", "x", 10 ** 30, None)])

    def test_replace(self):
        self.check("replace", [("a,b,c", ",", "; ", "a; b; c"), ("abc", "", "x", "abc"), ("abc", "x", "y", "abc"),
                               ("aaa", "aa", "b", "ba"), ("", "a", "b", ""), ("aaa", "a", "", ""),
                               ("x" * 5000, "x", "yy", "y" * 10000), ("x" * 5001, "x", "yy", None),
                               (LONG, "x", LONG, None), (LONG, "x", "", ""), (LONG, "y", "z", LONG)])

    def test_pad(self):
        self.check("pad", [("7", "0", 3, "007"), ("7", "01", 3, "007"), ("abc", "0", 3, "abc"), ("abc", "0", 2, "abc"),
                           ("abc", "", 9, "abc"), ("abc", "0", -5, "abc"), ("", "x", 10000, LONG), ("", "x", 10001, None),
                           ("a", "", 10001, "a"), ("", "", 0, ""), ("", "x", 10 ** 30, None)])


if __name__ == "__main__":
    unittest.main()
