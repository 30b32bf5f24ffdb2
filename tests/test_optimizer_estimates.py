"""Points 128 to 131: estimates of operators, and shares of conditions."""

import random
import unittest

from stylobate.optimizer.estimates import estimate, share_of
from stylobate.optimizer.statistics import Estimate, Known, known_of, statistics_of
from tests.random_plans import WIDTHS, Plans
from tests.samples import binary, choice, column, constant, ternary, unary

A, B, C, D = [column(number) for number in range(4)]
TRUE = constant(True)
T, U = ("table", 0), ("table", 1)
# 1 to 8, and two Nones; mostly 5; nothing known, but that there are seven different values.
EIGHT = known_of([None, None] + list(range(1, 9)))
FIVES = known_of([1, 2] + [5] * 6)
UNKNOWN = Known(0, 7, None, None, [])
EMPTY = known_of([None] * 10)
COLUMNS = [EIGHT, FIVES, UNKNOWN, EMPTY]


def told(known):
    return (known.nulls, known.different, known.first, known.last, known.marks)


def unknown(different, nulls=0):
    return (nulls, different, None, None, [])


class Shares(unittest.TestCase):
    def check(self, condition, wanted, many=10, columns=None):
        self.assertEqual(share_of(condition, many, COLUMNS if columns is None else columns), wanted, condition)

    def compare(self, one, other, wanted, many=10):
        """The shares of equal, less and at most."""
        found = [share_of(binary(name, one, other), many, COLUMNS) for name in ("equal", "less", "at most")]
        self.assertEqual(found, wanted, (one, other))

    def test_constants(self):
        self.check(TRUE, 1000)
        for value in (False, None, 1, "true", 0):
            self.check(constant(value), 0)

    def test_a_column_and_a_value(self):
        # Eight of ten rows have a value: 1000 is 800 of all rows.
        self.compare(A, constant(0), [0, 0, 0])
        self.compare(A, constant(1), [100, 0, 151])
        self.compare(A, constant(3), [100, 251, 351])
        self.compare(A, constant(8), [100, 751, 800])
        self.compare(A, constant(9), [0, 800, 800])
        self.compare(A, constant(3), [119, 298, 417], many=40)
        self.compare(A, constant(3), [0, 0, 0], many=0)
        # There are more Nones than rows.
        self.compare(A, constant(3), [0, 0, 0], many=2)
        self.compare(A, constant(3), [42, 105, 146], many=3)

    def test_values_that_come_often(self):
        # The marks are 1, 2 and six times 5; there are three different values.
        self.compare(B, constant(5), [625, 313, 1000], many=8)
        self.compare(B, constant(1), [334, 0, 188], many=8)
        self.compare(B, constant(2), [334, 188, 313], many=8)
        self.compare(B, constant(3), [334, 313, 313], many=8)
        self.compare(B, constant(6), [0, 1000, 1000], many=8)
        once = [known_of([4])]
        self.check(binary("equal", A, constant(4)), 1000, 1, once)
        self.check(binary("less", A, constant(4)), 0, 1, once)
        self.check(binary("at most", A, constant(4)), 1000, 1, once)

    def test_values_of_other_kinds(self):
        for value in (None, True, "a"):
            self.compare(A, constant(value), [0, 0, 0])
            self.compare(constant(value), A, [0, 800, 800])
        mixed = [known_of([False, True, 1, "a"])]
        # The kind that counts is that of the first value, a boolean.
        self.check(binary("equal", A, constant(1)), 0, 4, mixed)
        self.check(binary("equal", A, constant(True)), 250, 4, mixed)
        self.check(binary("less", A, constant(True)), 313, 4, mixed)

    def test_a_value_and_a_column(self):
        self.compare(constant(0), A, [0, 800, 800])
        self.compare(constant(1), A, [100, 649, 800])
        self.compare(constant(3), A, [100, 449, 549])
        self.compare(constant(8), A, [100, 0, 49])
        self.compare(constant(9), A, [0, 0, 0])
        self.compare(constant(3), A, [0, 0, 0], many=0)
        self.compare(constant(5), B, [625, 0, 687], many=8)

    def test_columns_about_which_nothing_is_known(self):
        self.compare(C, constant(3), [143, 333, 333])
        self.compare(constant(None), C, [143, 333, 333])
        self.compare(D, constant(3), [0, 0, 0])
        self.compare(constant(3), D, [0, 0, 0])
        self.compare(column(9), constant(3), [334, 333, 333])
        self.compare(constant(3), column(9), [334, 333, 333])

    def test_two_columns(self):
        for name in ("equal", "same"):
            self.check(binary(name, A, B), 125)
            self.check(binary(name, B, A), 125)
            self.check(binary(name, B, C), 143)
            self.check(binary(name, B, D), 334)
            self.check(binary(name, D, D), 0)
            self.check(binary(name, B, column(4)), 334)
            self.check(binary(name, D, column(9)), 334)
        self.check(binary("less", A, B), 333)
        self.check(binary("at most", A, B), 333)

    def test_nulls(self):
        self.check(unary("is null", A), 200)
        self.check(unary("is null", A), 667, many=3)
        self.check(unary("is null", A), 1000, many=1)
        self.check(unary("is null", A), 0, many=0)
        self.check(unary("is null", B), 0)
        self.check(unary("is null", D), 1000)
        self.check(unary("is null", column(9)), 0)
        self.check(unary("not", unary("is null", A)), 800)

    def test_and_or_not(self):
        three = binary("equal", A, constant(3))
        odd = unary("upper", A)
        self.check(binary("and", three, three), 10)
        self.check(binary("and", odd, odd), 111)
        self.check(binary("and", odd, three), 34)
        self.check(binary("and", TRUE, odd), 333)
        self.check(binary("and", odd, constant(None)), 0)
        self.check(binary("or", three, odd), 433)
        self.check(binary("or", TRUE, odd), 1000)
        self.check(binary("or", unary("not", three), odd), 1000)
        self.check(unary("not", odd), 667)
        self.check(unary("not", TRUE), 0)
        self.check(unary("not", constant(None)), 1000)

    def test_everything_else(self):
        for condition in (A, unary("negate", A), unary("is null", constant(1)), unary("is null", unary("negate", A)),
                          binary("equal", constant(1), constant(1)), binary("same", A, constant(3)),
                          binary("same", constant(3), A), binary("like", A, B), binary("equal", A, unary("abs", B)),
                          binary("less", unary("abs", A), constant(1)), binary("add", A, B),
                          choice(TRUE, TRUE, TRUE), ternary("part", A, B, C)):
            self.check(condition, 333)


class Estimates(unittest.TestCase):
    def setUp(self):
        left = [[number, None if number < 3 else "a"] for number in range(1, 9)]
        right = [[number, number // 2] for number in range(4)] + [[None, 7]]
        self.statistics = statistics_of([2, 2], [left, right])
        self.left = [told(known_of([row[at] for row in left])) for at in range(2)]
        self.right = [told(known_of([row[at] for row in right])) for at in range(2)]

    def check(self, plan, many, columns):
        found = estimate(plan, self.statistics)
        self.assertEqual(found.many, many, plan)
        self.assertEqual(repr([told(known) for known in found.columns]), repr(columns), plan)

    def limited(self, column, many):
        return (min(column[0], many), min(column[1], many)) + column[2:]

    def test_tables_and_rows(self):
        self.check(T, 8, self.left)
        self.check(U, 5, self.right)
        self.check(("table", 2), 0, [])
        self.check(("rows", 2, ((1, None), [3, "x"])), 2,
                   [(0, 2, 1, 3, [1] * 4 + [3] * 4), (1, 1, "x", "x", ["x"] * 8)])
        self.check(("rows", 1, ()), 0, [unknown(0)])

    def test_filters(self):
        # The share of $0 less 3 is 313: 8 * 313 / 1000, rounded up.
        less = binary("less", A, constant(3))
        self.check(("filter", less, T), 3, [self.limited(one, 3) for one in self.left])
        self.check(("filter", TRUE, T), 8, self.left)
        self.check(("filter", constant(False), T), 0, [self.limited(one, 0) for one in self.left])
        self.check(("filter", unary("is null", B), T), 2, [self.limited(one, 2) for one in self.left])
        # 3 rows with 2 Nones: the share is 667.
        self.check(("filter", unary("is null", B), ("filter", less, T)), 3, [self.limited(one, 3) for one in self.left])

    def test_projects(self):
        self.check(("project", (B, constant(5), unary("negate", A), A, column(7)), T), 8,
                   [self.left[1], unknown(1), unknown(8), self.left[0], unknown(3)])
        self.check(("project", (constant(5), unary("negate", A)), ("rows", 1, ())), 0, [unknown(1), unknown(0)])
        self.check(("project", (), T), 8, [])

    def test_joins(self):
        # The share is 1000 / 8: 5 pairs of 40.
        condition = binary("equal", A, C)
        both = self.left + self.right
        self.check(("join", "inner", 2, condition, T, U), 5, [self.limited(one, 5) for one in both])
        self.check(("join", "left", 2, condition, T, U), 8, both)
        self.check(("join", "some", 2, condition, T, U), 5, [self.limited(one, 5) for one in self.left])
        self.check(("join", "none", 2, condition, T, U), 3, [self.limited(one, 3) for one in self.left])
        self.check(("join", "never", 2, condition, T, U), 3, [self.limited(one, 3) for one in self.left])
        self.check(("join", "inner", 2, TRUE, T, U), 40, both)
        self.check(("join", "left", 2, TRUE, T, U), 40, both)
        self.check(("join", "some", 2, TRUE, T, U), 8, self.left)
        self.check(("join", "none", 2, TRUE, T, U), 0, [self.limited(one, 0) for one in self.left])
        # The Nones of a side are few among all pairs: 1000 * 1 / 40, of 40.
        self.check(("join", "inner", 2, unary("is null", C), T, U), 1, [self.limited(one, 1) for one in both])
        self.check(("join", "left", 2, TRUE, T, ("rows", 1, ())), 8, self.left + [unknown(0)])

    def test_groups(self):
        values = (("rows", None), ("sum", A))
        self.check(("group", (), values, T), 1, [unknown(1), unknown(1)])
        self.check(("group", (), values, ("rows", 1, ())), 1, [unknown(1), unknown(1)])
        # One value and None are two groups.
        self.check(("group", (B,), values, T), 2, [self.limited(self.left[1], 2), unknown(2), unknown(2)])
        self.check(("group", (B, constant(3)), (), T), 2, [self.limited(self.left[1], 2), unknown(1)])
        self.check(("group", (A, B), (), T), 8, self.left)
        self.check(("group", (unary("abs", A),), (), T), 8, [unknown(8)])
        self.check(("group", (column(9),), (), T), 3, [unknown(3)])
        self.check(("group", (column(9), B), (), T), 6, [unknown(3), self.left[1]])
        self.check(("group", (A,), (), ("rows", 1, ())), 0, [unknown(0)])
        self.check(("group", (constant(1),), (), ("rows", 1, ())), 0, [unknown(0)])
        # Without a value and without a None there is no group.
        self.check(("group", (A,), (), ("project", (A,), ("join", "left", 1, TRUE, ("rows", 1, ()), T))), 0, [unknown(0)])

    def test_distinct(self):
        self.check(("distinct", T), 8, self.left)
        self.check(("distinct", ("project", (B,), T)), 2, [self.limited(self.left[1], 2)])
        self.check(("distinct", ("project", (), T)), 1, [])
        self.check(("distinct", ("project", (), ("rows", 1, ()))), 0, [])
        self.check(("distinct", ("rows", 1, ((5,),))), 1, [(0, 1, 5, 5, [5] * 8)])
        self.check(("distinct", ("rows", 1, ((None,), (5,), (5,), (5,)))), 2, [(1, 1, 5, 5, [5] * 8)])
        # 5 different values of the left column, 3 and a None would be 15 of the right side, but 5 rows.
        self.check(("distinct", U), 5, self.right)

    def test_unions(self):
        self.check(("union", T, U), 13, [unknown(12, 1), unknown(4, 2)])
        self.check(("union", ("filter", constant(None), T), ("rows", 2, ((1, 2),))), 1, [unknown(1), unknown(1)])
        self.check(("union", ("project", (constant(3),), ("rows", 0, ())), ("project", (constant(4),), ("rows", 0, ()))),
                   0, [unknown(0)])

    def test_windows_and_tops(self):
        functions = (("number", None, None, None), ("sum", A, None, None))
        self.check(("window", (B,), (), functions, T), 8, self.left + [unknown(8), unknown(8)])
        self.check(("top", (), 0, None, T), 8, self.left)
        self.check(("top", (), 3, None, T), 5, [self.limited(one, 5) for one in self.left])
        self.check(("top", (), 7, 4, T), 1, [self.limited(one, 1) for one in self.left])
        self.check(("top", (), 9, 4, T), 0, [self.limited(one, 0) for one in self.left])
        self.check(("top", (), 1, 4, T), 4, [self.limited(one, 4) for one in self.left])

    def test_nothing_that_is_passed_changes(self):
        before = [[told(known) for known in one.columns] for one in self.statistics]
        found = estimate(T, self.statistics)
        self.assertIsInstance(found, Estimate)
        estimate(("join", "inner", 2, binary("equal", A, C), ("filter", TRUE, T), ("distinct", U)), self.statistics)
        self.assertEqual([[told(known) for known in one.columns] for one in self.statistics], before)

    def test_random_plans_have_bounded_estimates(self):
        chance = random.Random(128)
        for _ in range(300):
            plans = Plans(chance)
            plan, width = plans.plan(4)
            found = estimate(plan, statistics_of(WIDTHS, plans.tables()))
            self.assertEqual(len(found.columns), width)
            self.assertGreaterEqual(found.many, 0)
            for known in found.columns:
                self.assertTrue(known.nulls <= found.many and 0 <= known.different <= max(found.many, 1))
