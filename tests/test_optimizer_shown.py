"""Points 139 and 140: expressions, plans and moves as texts."""

import unittest

from stylobate.optimizer.shown import (
    shown_expression, shown_line, shown_list, shown_move, shown_physical, shown_plan,
)
from stylobate.values.operations import BINARY, TERNARY, UNARY
from tests.samples import binary, choice, column, constant, ternary, unary

A, B = column(0), column(1)
TRUE = constant(True)
NAMES = ["orders", "people", "a b"]


class Expressions(unittest.TestCase):
    def check(self, expression, wanted):
        self.assertEqual(shown_expression(expression), wanted)

    def test_values_and_columns(self):
        for value, wanted in ((None, "null"), (True, "true"), (False, "false"), (0, "0"), (-12, "-12"), (10 ** 15, "1" + "0" * 15),
                              ("", "''"), ("a b", "'a b'"), ("it's", "'it''s'"), ("''", "''''''"), ("\"", "'\"'")):
            self.check(constant(value), wanted)
        self.check(A, "$0")
        self.check(column(12), "$12")

    def test_operations_on_one_and_three(self):
        for name in UNARY:
            self.check(unary(name, A), f"{name}($0)")
        for name in TERNARY:
            self.check(ternary(name, A, constant("x"), constant(2)), f"{name}($0, 'x', 2)")
        self.check(choice(A, constant(1), unary("month start", B)), "if($0, 1, month start($1))")

    def test_operations_on_two(self):
        signs = ["and", "or", "=", "<", "<=", "is", "least", "greatest", "+", "-", "*", "/", "mod", ".*", "./", "||", "like",
                 "position in", "else", "+ days", "+ months"]
        self.assertEqual(len(signs), len(BINARY))
        for name, sign in zip(BINARY, signs):
            self.check(binary(name, A, constant(1)), f"($0 {sign} 1)")
        self.check(binary("and", binary("less", A, B), unary("not", binary("or", A, TRUE))), "(($0 < $1) and not(($0 or true)))")

    def test_lists(self):
        self.assertEqual(shown_list([]), "[]")
        self.assertEqual(shown_list((A,)), "[$0]")
        self.assertEqual(shown_list([A, binary("add", A, B), constant("x")]), "[$0, ($0 + $1), 'x']")

    def test_moves(self):
        self.assertEqual(shown_move(("filter into join", 3)), "filter into join at 3")
        self.assertEqual(shown_move(("fold", 0)), "fold at 0")


T, U = ("table", 0), ("table", 2)


class Plans(unittest.TestCase):
    def check(self, plan, *lines):
        self.assertEqual(shown_plan(plan, NAMES), list(lines))

    def test_lines(self):
        self.check(T, "table orders")
        self.check(U, "table a b")
        self.check(("rows", 2, ((1, 2), [3, 4])), "rows 2 of 2")
        self.check(("rows", 0, ()), "rows 0 of 0")
        self.check(("filter", binary("less", A, B), T), "filter ($0 < $1)", "  table orders")
        self.check(("project", (B, constant(1)), T), "project [$1, 1]", "  table orders")
        self.check(("project", (), T), "project []", "  table orders")
        for kind in ("inner", "left", "some", "none", "never"):
            self.check(("join", kind, 2, TRUE, T, U), f"join {kind} on true", "  table orders", "  table a b")
        self.check(("group", (A,), (("rows", None), ("sum", B), ("average decimal", B)), T),
                   "group by [$0] of [rows(), sum($1), average decimal($1)]", "  table orders")
        self.check(("group", (), (), T), "group by [] of []", "  table orders")
        self.check(("distinct", T), "distinct", "  table orders")
        self.check(("union", T, U), "union", "  table orders", "  table a b")

    def test_windows_and_tops(self):
        functions = (("number", None, None, None), ("rank", None, None, None), ("dense", None, None, None),
                     ("tile", None, None, 3), ("before", A, None, 1), ("after", B, None, 2), ("sum", A, (1, 0), None),
                     ("count", A, None, None), ("first", unary("abs", A), (0, 12), None))
        self.check(("window", (B,), ((A, True), (B, False)), functions, T),
                   "window by [$1] order [$0 down, $1] of [number(), rank(), dense(), tile(3), before($0, 1), "
                   "after($1, 2), sum($0) from 1 to 0, count($0), first(abs($0)) from 0 to 12]", "  table orders")
        self.check(("window", (), (), (), T), "window by [] order [] of []", "  table orders")
        self.check(("top", ((A, True),), 2, 3, T), "top order [$0 down] skip 2 count 3", "  table orders")
        self.check(("top", (), 0, 0, T), "top order [] skip 0 count 0", "  table orders")
        self.check(("top", ((A, False), (B, True)), 0, None, T), "top order [$0, $1 down] skip 0", "  table orders")

    def test_blanks(self):
        plan = ("join", "inner", 2, binary("equal", A, B), ("union", ("distinct", T), ("filter", A, U)), ("distinct", U))
        self.check(plan, "join inner on ($0 = $1)", "  union", "    distinct", "      table orders", "    filter $0",
                   "      table a b", "  distinct", "    table a b")


class PhysicalPlans(unittest.TestCase):
    def check(self, plan, *lines):
        self.assertEqual(shown_physical(plan, NAMES), list(lines))
        self.assertEqual(shown_line(plan, NAMES), lines[0])

    def test_scans(self):
        scan = ("scan", 1, TRUE, (0, 2))
        self.check(scan, "scan people columns [0, 2]")
        self.check(("scan", 0, TRUE, ()), "scan orders columns []")
        self.check(("scan", 0, binary("less", A, B), (1,)), "scan orders columns [1] where ($0 < $1)")
        self.check(("scan", 0, constant(False), (1,)), "scan orders columns [1] where false")
        self.check(("scan", 0, constant(1), (1,)), "scan orders columns [1] where 1")

    def test_ways(self):
        s, t = ("scan", 0, TRUE, (0,)), ("scan", 1, TRUE, (1,))
        below = ("  scan orders columns [0]", "  scan people columns [1]")
        self.check(("join", "hash left", "left", 1, (A,), (B,), TRUE, s, t),
                   "join left by hash left keys [$0] and [$1]", *below)
        self.check(("join", "merge", "inner", 1, (A, B), (B, A), binary("less", A, B), s, t),
                   "join inner by merge keys [$0, $1] and [$1, $0] on ($0 < $1)", *below)
        self.check(("join", "loop", "never", 1, (), (), binary("equal", A, B), s, t),
                   "join never by loop on ($0 = $1)", *below)
        self.check(("join", "loop", "inner", 1, (), (), TRUE, s, t), "join inner by loop", *below)
        self.check(("join", "loop", "some", 1, (), (), constant(None), s, t), "join some by loop on null", *below)
        self.check(("group", "hash", (A,), (("rows", None),), s), "group by hash [$0] of [rows()]", below[0])
        self.check(("group", "sort", (), (("list", A),), s), "group by sort [] of [list($0)]", below[0])
        self.check(("distinct", "sort", s), "distinct by sort", below[0])
        self.check(("distinct", "hash", s), "distinct by hash", below[0])

    def test_lines_as_in_plans(self):
        s, line = ("scan", 0, TRUE, (0,)), "  scan orders columns [0]"
        self.check(("rows", 1, ((1,),)), "rows 1 of 1")
        self.check(("filter", A, s), "filter $0", line)
        self.check(("project", (A, A), s), "project [$0, $0]", line)
        self.check(("union", s, ("distinct", "hash", s)), "union", line, "  distinct by hash", "  " + line)
        self.check(("window", (A,), (), (("number", None, None, None),), s), "window by [$0] order [] of [number()]", line)
        self.check(("top", ((A, True),), 1, 2, s), "top order [$0 down] skip 1 count 2", line)
