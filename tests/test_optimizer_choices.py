"""Points 132 to 136: physical plans, keys and ways, expected rows and costs."""

import random
import unittest

from stylobate.meaning.plans import rows_of
from stylobate.optimizer.choices import (
    WAYS, expectations, expected, group_cost, halvings, join_cost, keys_of, physical, sort_cost,
)
from stylobate.optimizer.estimates import estimate
from stylobate.optimizer.statistics import statistics_of
from stylobate.running.physical import meaning_of, operators_of
from tests.random_plans import WIDTHS, Plans, bag
from tests.samples import binary, column, constant, is_exactly, unary

A, B, C, D, E = [column(number) for number in range(5)]
TRUE = constant(True)
T, U = ("table", 0), ("table", 1)
SCAN_T, SCAN_U = ("scan", 0, TRUE, (0, 1)), ("scan", 1, TRUE, (0, 1))
LEFT = [[number, None if number < 3 else "a"] for number in range(1, 9)]
RIGHT = [[number, number // 2] for number in range(4)] + [[None, 7]]
STATISTICS = statistics_of([2, 2], [LEFT, RIGHT])


def equal(one, two):
    return binary("equal", one, two)


def less(one, two):
    return binary("less", one, two)


def both(one, two):
    return binary("and", one, two)


class Costs(unittest.TestCase):
    def test_halvings(self):
        for number, wanted in ((0, 0), (1, 0), (2, 1), (3, 2), (4, 2), (5, 3), (8, 3), (9, 4), (1000, 10), (1024, 10),
                               (1025, 11), (2 ** 39, 39), (2 ** 40, 40), (2 ** 40 + 1, 40), (10 ** 100, 40)):
            self.assertEqual(halvings(number), wanted, number)
            self.assertEqual(sort_cost(number), number * wanted)

    def test_of_ways(self):
        self.assertEqual(WAYS, ("hash right", "hash left", "merge", "loop"))
        self.assertEqual([join_cost(way, 3, 5) for way in WAYS], [13, 11, 6 + 15 + 8, 18])
        self.assertEqual([join_cost(way, 0, 0) for way in WAYS], [0, 0, 0, 0])
        self.assertEqual([join_cost(way, 1, 4) for way in WAYS], [9, 6, 8 + 5, 5])
        self.assertEqual([group_cost(way, 5) for way in ("hash", "sort")], [10, 20])
        self.assertEqual([group_cost(way, 1) for way in ("hash", "sort")], [2, 1])


class Keys(unittest.TestCase):
    def check(self, condition, m, pairs, rest):
        found = keys_of(condition, m)
        self.assertIsInstance(found, tuple)
        self.assertTrue(is_exactly(found, (pairs, rest)), found)

    def test_keys(self):
        self.check(equal(A, C), 2, [(A, A)], TRUE)
        self.check(equal(D, B), 2, [(B, B)], TRUE)
        self.check(both(equal(A, C), equal(binary("add", C, D), unary("negate", B))), 2,
                   [(A, A), (unary("negate", B), binary("add", A, B))], TRUE)
        self.check(both(both(equal(A, D), less(A, C)), both(equal(B, B), equal(C, A))), 2,
                   [(A, B), (A, A)], both(less(A, C), equal(B, B)))

    def test_what_is_none(self):
        for condition in (less(A, C), binary("same", A, C), equal(A, B), equal(C, D), equal(A, constant(1)),
                          equal(constant(1), C), equal(binary("add", A, C), D), equal(constant(1), constant(1)),
                          TRUE, A, binary("or", equal(A, C), equal(A, C)), unary("not", equal(A, C))):
            self.check(condition, 2, [], condition)
        # Parts that are the constant True stay in the rest.
        self.check(both(TRUE, equal(A, C)), 2, [(A, A)], TRUE)
        self.check(both(both(TRUE, equal(A, C)), less(A, C)), 2, [(A, A)], both(TRUE, less(A, C)))
        self.check(equal(A, B), 1, [(A, A)], TRUE)
        self.check(equal(A, B), 0, [], equal(A, B))


class PhysicalPlans(unittest.TestCase):
    def check(self, plan, wanted, choices=(), statistics=None):
        found = physical(plan, STATISTICS if statistics is None else statistics, choices)
        self.assertTrue(is_exactly(found, wanted), found)

    def test_tables_filters_and_projects(self):
        self.check(T, SCAN_T)
        self.check(("table", 7), ("scan", 7, TRUE, ()))
        self.check(("filter", less(A, B), T), ("scan", 0, less(A, B), (0, 1)))
        self.check(("filter", less(A, B), ("filter", both(B, A), T)), ("scan", 0, binary("and", B, both(A, less(A, B))), (0, 1)))
        self.check(("filter", TRUE, T), SCAN_T)
        self.check(("filter", TRUE, ("filter", A, T)), ("scan", 0, both(A, TRUE), (0, 1)))
        self.check(("project", (B, A, B), T), ("scan", 0, TRUE, (1, 0, 1)))
        self.check(("project", (), T), ("scan", 0, TRUE, ()))
        self.check(("project", (C, A), ("project", (B, A, A), T)), ("scan", 0, TRUE, (0, 1)))
        # The columns of a filter are those that the scan gives.
        self.check(("filter", less(A, C), ("project", (B, A, A), T)), ("scan", 0, less(B, A), (1, 0, 0)))
        self.check(("filter", less(A, C), ("project", (B,), ("filter", B, T))),
                   ("scan", 0, both(B, less(B, constant(None))), (1,)))
        self.check(("project", (B,), ("filter", less(A, B), T)), ("scan", 0, less(A, B), (1,)))

    def test_what_stays(self):
        computed = (unary("negate", A), B)
        self.check(("project", computed, T), ("project", computed, SCAN_T))
        self.check(("project", (A, TRUE), T), ("project", (A, TRUE), SCAN_T))
        self.check(("project", (B, C), T), ("project", (B, C), SCAN_T))
        self.check(("filter", A, ("project", computed, T)), ("filter", A, ("project", computed, SCAN_T)))
        self.check(("project", (B,), ("project", computed, T)), ("project", (B,), ("project", computed, SCAN_T)))
        rows = ("rows", 1, ((1,),))
        self.check(("filter", A, ("project", (A,), rows)), ("filter", A, ("project", (A,), rows)))
        self.check(("union", T, ("filter", A, U)), ("union", SCAN_T, ("scan", 1, A, (0, 1))))
        functions = (("number", None, None, None),)
        self.check(("window", (A,), ((B, True),), functions, T), ("window", (A,), ((B, True),), functions, SCAN_T))
        self.check(("top", ((A, True),), 1, None, T), ("top", ((A, True),), 1, None, SCAN_T))
        self.check(("filter", A, ("top", (), 0, 1, T)), ("filter", A, ("top", (), 0, 1, SCAN_T)))

    def test_joins_by_choices(self):
        condition = both(equal(A, C), less(B, D))
        for kind in ("inner", "left", "some", "none"):
            plan = ("join", kind, 2, condition, T, U)
            by_hash = ("join", "hash right", kind, 2, (A,), (A,), less(B, D), SCAN_T, SCAN_U)
            # 8 + 2 * 5 is the least.
            for choices in ((), (0,), (1,), (5,), (100,), [1, 4]):
                self.check(plan, by_hash, choices)
            self.check(plan, by_hash[:1] + ("hash left",) + by_hash[2:], (2,))
            self.check(plan, by_hash[:1] + ("merge",) + by_hash[2:], (3,))
            self.check(plan, ("join", "loop", kind, 2, (), (), condition, SCAN_T, SCAN_U), (4,))

    def test_joins_by_loops_alone(self):
        for choices in ((), (0,), (1,), (2,), (4,)):
            plan = ("join", "never", 2, equal(A, C), T, U)
            self.check(plan, ("join", "loop", "never", 2, (), (), equal(A, C), SCAN_T, SCAN_U), choices)
            plan = ("join", "inner", 2, less(A, C), T, U)
            self.check(plan, ("join", "loop", "inner", 2, (), (), less(A, C), SCAN_T, SCAN_U), choices)

    def test_the_cheapest_way(self):
        join = ("join", "inner", 2, equal(A, C), U, T)
        self.check(join, ("join", "hash left", "inner", 2, (A,), (A,), TRUE, SCAN_U, SCAN_T))
        self.check(join, ("join", "hash right", "inner", 2, (A,), (A,), TRUE, SCAN_U, SCAN_T), (1,))
        same = ("join", "inner", 2, equal(A, C), T, T)
        self.check(same, ("join", "hash right", "inner", 2, (A,), (A,), TRUE, SCAN_T, SCAN_T))
        # One row on the left: 1 + 8 by loops, 2 + 8 by a hash of the left.
        one = ("rows", 1, ((1,),))
        self.check(("join", "inner", 2, equal(A, B), one, T),
                   ("join", "loop", "inner", 2, (), (), equal(A, B), one, SCAN_T))
        none = ("rows", 1, ())
        self.check(("join", "inner", 2, equal(A, B), none, T),
                   ("join", "loop", "inner", 2, (), (), equal(A, B), none, SCAN_T))

    def test_groups_and_distinct(self):
        values = (("rows", None),)
        for choices, way in (((), "hash"), ((0,), "hash"), ((1,), "hash"), ((2,), "sort"), ((3,), "hash")):
            self.check(("group", (A,), values, T), ("group", way, (A,), values, SCAN_T), choices)
            self.check(("group", (), values, T), ("group", way, (), values, SCAN_T), choices)
            self.check(("distinct", T), ("distinct", way, SCAN_T), choices)
        # One row: 2 by a hash, 1 by a sort. Two rows: 4 by both. None: 0 by both.
        for many, way in ((0, "hash"), (1, "sort"), (2, "hash"), (3, "hash")):
            rows = ("rows", 0, ((),) * many)
            self.check(("distinct", rows), ("distinct", way, rows))
            self.check(("group", (), (), rows), ("group", way, (), (), rows))
            self.check(("group", (), (), rows), ("group", "hash", (), (), rows), (1,))
        # The rows that are expected count: 1 of 8 rows.
        found = physical(("distinct", ("filter", equal(A, constant(1)), T)), STATISTICS)
        self.assertEqual(found[1], "sort")

    def test_choices_go_from_the_first_operator_on(self):
        plan = ("group", (), (), ("join", "inner", 2, equal(A, C),
                                  ("distinct", ("filter", A, T)), ("join", "some", 2, equal(A, C), U, ("distinct", T))))
        self.check(plan, (
            "group", "sort", (), (),
            ("join", "merge", "inner", 2, (A,), (A,), TRUE, ("distinct", "hash", ("scan", 0, A, (0, 1))),
             ("join", "loop", "some", 2, (), (), equal(A, C), SCAN_U, ("distinct", "sort", SCAN_T)))), (2, 3, 1, 4, 2, 1))
        self.check(plan, (
            "group", "hash", (), (),
            ("join", "merge", "inner", 2, (A,), (A,), TRUE, ("distinct", "sort", ("scan", 0, A, (0, 1))),
             ("join", "hash left", "some", 2, (A,), (A,), TRUE, SCAN_U, ("distinct", "hash", SCAN_T)))), (1, 3, 2))

    def test_choices_are_not_changed(self):
        choices = [1, 2]
        physical(("distinct", ("distinct", T)), STATISTICS, choices)
        self.assertEqual(choices, [1, 2])


class Expected(unittest.TestCase):
    def check(self, plan, many, cost):
        self.assertEqual(expected(plan, STATISTICS), (many, cost), plan)

    def test_scans_and_rows(self):
        self.check(SCAN_T, 8, 8)
        self.check(("scan", 0, less(A, constant(3)), (1,)), 3, 8)
        self.check(("scan", 0, less(A, constant(3)), ()), 3, 8)
        self.check(("scan", 5, TRUE, ()), 0, 0)
        self.check(("rows", 1, ((1,), (2,))), 2, 2)
        self.check(("rows", 1, ()), 0, 0)

    def test_others(self):
        self.check(("filter", less(A, constant(3)), SCAN_T), 3, 8 + 8)
        self.check(("project", (A,), ("filter", less(A, constant(3)), SCAN_T)), 3, 8 + 8 + 3)
        self.check(("union", SCAN_T, SCAN_U), 13, 13)
        self.check(("window", (), (), (), SCAN_U), 5, 5 + 15 + 5)
        self.check(("top", (), 0, 2, SCAN_U), 2, 5 + 15)
        self.check(("top", (), 1, None, SCAN_U), 4, 5 + 15)
        self.check(("group", "hash", (B,), (), SCAN_T), 2, 8 + 16)
        self.check(("group", "sort", (B,), (), SCAN_T), 2, 8 + 24 + 8)
        self.check(("group", "hash", (), (), SCAN_T), 1, 8 + 16)
        self.check(("distinct", "hash", SCAN_U), 5, 5 + 10)
        self.check(("distinct", "sort", SCAN_U), 5, 5 + 15 + 5)

    def test_joins(self):
        # The share of equal keys is 125: 5 of 40 pairs.
        keys = ((A,), (A,), TRUE, SCAN_T, SCAN_U)
        self.check(("join", "hash right", "inner", 2) + keys, 5, 13 + 18 + 5)
        self.check(("join", "hash left", "left", 2) + keys, 8, 13 + 21 + 8)
        self.check(("join", "merge", "some", 2) + keys, 5, 13 + 24 + 15 + 13 + 5)
        self.check(("join", "hash right", "none", 2) + keys, 3, 13 + 18 + 3)
        self.check(("join", "loop", "inner", 2, (), (), equal(A, C), SCAN_T, SCAN_U), 5, 13 + 48 + 5)
        # 125 * 333 / 1000 is 42: 2 of 40 pairs.
        self.check(("join", "hash right", "inner", 2, (A,), (A,), less(B, D), SCAN_T, SCAN_U), 2, 13 + 18 + 2)
        # Two keys and the rest: 125 and (334 and 1000) are 42.
        self.check(("join", "hash right", "inner", 2, (A, B), (A, B), TRUE, SCAN_T, SCAN_U), 2, 13 + 18 + 2)

    def test_joins_of_sides_with_other_numbers_of_columns(self):
        # The greater number of different values is 3: 334 of 10 pairs.
        one = ("rows", 1, ((1,), (2,)))
        self.check(("join", "hash right", "inner", 2, (A,), (B,), TRUE, one, SCAN_U), 4, 2 + 5 + 12 + 4)
        self.check(("join", "hash right", "inner", 1, (B,), (A,), TRUE, SCAN_U, one), 4, 2 + 5 + 9 + 4)

    def test_all_operators(self):
        plan = ("top", (), 0, 2, ("union", SCAN_T, ("distinct", "hash", SCAN_U)))
        self.assertEqual(expectations(plan, STATISTICS), [(2, 8 + 15 + 13 * 4), (13, 23), (8, 8), (5, 15), (5, 5)])

    def test_random_plans(self):
        chance = random.Random(136)
        for _ in range(300):
            plans = Plans(chance)
            plan, width = plans.plan(4)
            tables = plans.tables()
            statistics = statistics_of(WIDTHS, tables)
            choices = [chance.randrange(6) for _ in range(chance.randrange(6))]
            found = physical(plan, statistics, choices)
            self.assertEqual(bag(meaning_of(found, tables)), bag(rows_of(plan, tables)), (plan, choices))
            told = expectations(found, statistics)
            self.assertEqual(told, [expected(operator, statistics) for operator in operators_of(found)])
            self.assertTrue(all(many >= 0 and cost >= 0 for many, cost in told))
            for operator in operators_of(found):
                if operator[0] in ("filter", "project"):
                    self.assertFalse(operator[0] == "filter" and operator[2][0] == "scan")
        self.assertEqual(estimate(T, STATISTICS).many, 8)
