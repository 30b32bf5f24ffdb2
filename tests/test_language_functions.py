"""Point 60: functions that are taken, and those that are refused."""

import unittest

from stylobate.language.catalog import Catalog
from stylobate.language.functions import check_function
from stylobate.language.values_of import bind_value
from tests.queries import TABLES, fault_of, place_of
from tests.samples import binary, column, constant

CALLS = ("lower upper length trim abs sign year month day weekday month_start year_start week_start int decimal text date "
         "coalesce same least greatest position add_months add_days part replace split pad").split()


def catalog_of(*functions):
    return Catalog(TABLES, functions=functions, parameters=[1, 2])


class Taken(unittest.TestCase):
    def test_names(self):
        told = {"f(x) = x": "f", "f(x, y) = x * 2 + y": "f", "f(x, y, z) = pad(x, y, z)": "f", '"a b"(x) = 1': "a b",
                '"select"("from") = "from"': "select", "Lower(x) = x": "Lower", "count(x) = x": "count", "f(f) = f": "f",
                "f(x) = 'a' + 1": "f", "f(x) = null": "f", "f(x) = date '2026-02-28'": "f", "f(X, x) = X + x": "f",
                "first(rows) = rows -- a comment": "first", "t(a) = lower(a)": "t"}
        for text, name in told.items():
            self.assertEqual(check_function(text, catalog_of()), name, text)

    def test_kinds_are_not_looked_at(self):
        self.assertEqual(check_function("f(x) = lower(x) + (x || 1)", catalog_of()), "f")
        self.assertEqual(check_function("f(x) = -(-(x and 1))", catalog_of()), "f")
        self.assertEqual(check_function("f(x) = " + "+".join(["x"] * 1900), catalog_of()), "f")

    def test_calls_of_functions(self):
        catalog = catalog_of("f(x) = x", "g(x, y) = f(x) + f(y)")
        self.assertEqual(check_function("h(x) = g(f(x), g(x, 1))", catalog), "h")
        more = catalog_of("f(x) = x", "g(x, y) = f(x) + f(y)", "h(x) = g(f(x), g(x, 1))")
        a, one = column(0), constant(1)
        self.assertEqual(bind_value("h(a)", "int", more, TABLES[0][1]), binary("add", a, binary("add", a, one)))

    def test_deep_bodies(self):
        functions = ["f0(x) = " + "-(" * 19 + "x" + ")" * 19]
        for number in range(1, 8):
            text = f"f{number}(x) = " + "-(" * 18 + f"f{number - 1}(x)" + ")" * 18
            self.assertEqual(check_function(text, catalog_of(*functions)), f"f{number}")
            functions.append(text)


class Refused(unittest.TestCase):
    def check(self, marked, reason, *functions):
        text, offset = place_of(marked)
        self.assertEqual(fault_of(check_function, text, catalog_of(*functions)), (offset, reason), marked)

    def test_tokens_and_syntax(self):
        self.check("f(x) = ^'x", "the text is not closed")
        self.check("f(x) = 1^;", "unexpected character")
        self.check("f(x) = " + "(" * 19 + "(^(x", "nested too deeply")
        self.check("^", "a name is expected")
        self.check("f ^= x", "( is expected")
        self.check("f(^) = 1", "a name is expected")
        self.check("f(x) ^", "= is expected")
        self.check("f(x) = x ^y", "the end is expected")
        self.check("f(x) = x^, y", "the end is expected")
        self.check("lower(x) = x ^y", "the end is expected")
        self.check("f(x, x, y, z) = q ^w", "the end is expected")

    def test_names_that_stand_already(self):
        for name in CALLS:
            self.check(f"^{name}(x) = y", f"the name stands already: {name}")
        self.check("^f(x) = x", "the name stands already: f", "f(x, y) = 1")
        self.check('^ "f"(x, y, z, w) = q', "the name stands already: f", "f(x) = g(x)")
        self.check("f(x) = ^y", "unknown name y", "g(x) = 1")

    def test_parameters(self):
        self.check("^f(x, y, z, w) = 1", "there are too many parameters")
        self.check("^f(x, x, x, x) = 1", "there are too many parameters")
        self.check("^ f(x, y, x) = q", "the name stands twice: x")
        self.check("^f(x, x) = q", "the name stands twice: x")
        self.check('^f(x, "x") = q', "the name stands twice: x")

    def test_names_in_bodies(self):
        self.check("f(x) = ^y", "unknown name y")
        self.check("f(x) = x + ^X", "unknown name X")
        self.check("f(x) = ^x.y", "unknown name y")
        self.check("f(x) = 1 + ^t.x", "unknown name x")
        self.check("f(x) = case when x then ^a else b end", "unknown name a")
        self.check("f(x) = ^a in (1)", "unknown name a")

    def test_parameters_dates_and_calls_in_bodies(self):
        self.check("f(x) = x + ^$1", "a parameter is not given")
        self.check("f(x) = ^date '2026-02-30'", "invalid date")
        self.check("f(x) = x ^in (1, date 'x')", "invalid date")
        self.check("f(x) = x ^not in (1, date 'x')", "invalid date")
        self.check("f(x) = ^g(x)", "unknown function g")
        self.check("f(x) = ^f(x)", "unknown function f")
        self.check("f(x) = ^lower(x, x)", "unknown function lower")
        self.check("f(x) = ^g(x)", "unknown function g", "g(x, y) = x")
        self.check("f(x) = ^g(x)", "this function cannot be used: g", "g(x) = h(x)")
        self.check("f(x) = ^g(x)", "this function cannot be used: g", "g(x) = h(x)", "h(x) = 1")
        self.check("f(x) = ^k(x)", "this function cannot be used: k", "g(x) = h(x)", "k(x) = g(x)")

    def test_from_the_inside_and_from_left_to_right(self):
        self.check("f(x) = g(^y) + $1", "unknown name y")
        self.check("f(x) = ^$1 + y", "a parameter is not given")
        self.check("f(x) = g(^date '') + y", "invalid date")
        self.check("f(x) = ^g(x) + y", "unknown function g")
        self.check("f(x) = ^y in (date '')", "unknown name y")
        self.check("f(x) = x * (1 + ^a) + b", "unknown name a")
        self.check("f(x) = lower(h(^a), g(x))", "unknown name a")


if __name__ == "__main__":
    unittest.main()
