"""Points 137 and 138: the cost of plans, lists of rules, the order of joins, and the default."""

import random
import unittest

from stylobate.language.queries import bind_query
from stylobate.meaning.plans import rows_of
from stylobate.optimizer.default import default_moves, ordered, plan_cost, use_list
from stylobate.optimizer.moves import make_move, make_moves, places
from stylobate.optimizer.rules import RULES
from stylobate.optimizer.statistics import statistics_of
from tests.queries import CATALOG
from tests.random_plans import WIDTHS, Plans, bag
from tests.samples import binary, column, constant, is_exactly

A, B, C, D, E = [column(number) for number in range(5)]
TRUE = constant(True)
T, U, V = ("table", 0), ("table", 1), ("table", 2)
LEFT = [[number, None if number < 3 else "a"] for number in range(1, 9)]
RIGHT = [[number, number // 2] for number in range(4)] + [[None, 7]]
ONE = [[3]]
STATISTICS = statistics_of([2, 2, 1], [LEFT, RIGHT, ONE])
FIRST = ("fold", "drop filter", "merge filters", "left join to inner", "filter below project", "filter below union",
         "filter below distinct", "filter below group", "filter below window", "filter into join",
         "condition to sides", "distinct twice", "distinct union", "distinct join", "distinct below group", "drop top",
         "top below union", "merge projects")
BEHIND = ("merge filters", "condition to sides", "project above join", "merge projects", "drop project")
LAST = ("merge projects", "drop left join", "prune group", "prune window", "prune join", "project below union",
        "drop project")


def equal(one, two):
    return binary("equal", one, two)


def less(one, two):
    return binary("less", one, two)


class Costs(unittest.TestCase):
    def check(self, plan, wanted):
        self.assertEqual(plan_cost(plan, STATISTICS), wanted, plan)

    def test_of_operators(self):
        self.check(T, 8)
        self.check(("table", 9), 0)
        self.check(("rows", 1, ((1,), (2,))), 2)
        self.check(("filter", less(A, constant(3)), T), 8 + 8)
        self.check(("project", (A,), ("filter", less(A, constant(3)), T)), 8 + 8 + 3)
        self.check(("union", T, U), 13)
        self.check(("window", (), (), (), U), 5 + 15 + 5)
        self.check(("top", (), 0, 2, U), 5 + 15)
        self.check(("group", (B,), (), T), 8 + 16)
        self.check(("group", (), (), V), 1 + 1)
        self.check(("distinct", U), 5 + 10)
        self.check(("distinct", V), 1 + 1)

    def test_of_joins(self):
        self.check(("join", "inner", 2, equal(A, C), T, U), 13 + 18 + 5)
        self.check(("join", "inner", 2, equal(A, C), U, T), 13 + 18 + 5)
        self.check(("join", "left", 2, equal(A, C), T, U), 13 + 18 + 8)
        self.check(("join", "some", 2, equal(A, C), T, U), 13 + 18 + 5)
        self.check(("join", "never", 2, equal(A, C), T, U), 13 + 48 + 3)
        self.check(("join", "inner", 2, TRUE, T, U), 13 + 48 + 40)
        self.check(("join", "inner", 2, TRUE, U, T), 13 + 45 + 40)
        self.check(("join", "inner", 2, equal(A, B), ("rows", 1, ((1,), (2,))), U), 2 + 5 + 9 + 3)
        # One row on the left: 1 + 8 by loops is the least.
        self.check(("join", "inner", 2, equal(A, B), V, T), 9 + 9 + 1)


class Lists(unittest.TestCase):
    def test_rules_are_used_again_and_again(self):
        plan = ("filter", TRUE, ("filter", TRUE, ("filter", A, ("filter", B, T))))
        found, moves = use_list(("drop filter", "merge filters"), plan, [2])
        self.assertEqual(found, ("filter", binary("and", B, A), T))
        self.assertEqual(moves, [("drop filter", 0), ("drop filter", 0), ("merge filters", 0)])
        # The first rule of the list that applies anywhere is used, also if another one applies higher up.
        found, moves = use_list(("merge filters", "drop filter"), plan, [2])
        self.assertEqual(moves, [("merge filters", 0)] * 3)
        self.assertEqual(found, ("filter", binary("and", binary("and", B, A), binary("and", TRUE, TRUE)), T))

    def test_a_list_begins_again_behind_each_move(self):
        plan = ("filter", binary("and", TRUE, equal(constant(1), constant(1))), T)
        self.assertEqual(use_list(("drop filter", "fold"), plan, [2]), (T, [("fold", 0), ("drop filter", 0)]))

    def test_at_most(self):
        plan = ("join", "inner", 2, TRUE, T, U)
        for most in (0, 1, 2, 7):
            found, moves = use_list(("commute",), plan, [2, 2], most)
            self.assertEqual(moves, [("commute", 0)] * most)
            self.assertEqual(found, make_moves(moves, plan, [2, 2]))
        self.assertEqual(len(use_list(("commute",), plan, [2, 2])[1]), 100)
        self.assertEqual(len(use_list(("commute",), plan, [2, 2], most=3)[1]), 3)

    def test_nothing_applies(self):
        self.assertEqual(use_list(("fold", "commute"), T, [2]), (T, []))
        self.assertEqual(use_list((), ("filter", TRUE, T), [2]), (("filter", TRUE, T), []))
        self.assertEqual(use_list(["drop filter"], ("filter", TRUE, T), [2]), (T, [("drop filter", 0)]))


class Orders(unittest.TestCase):
    def test_a_side_with_fewer_rows_goes_to_the_left(self):
        # By loops 8 + 40 against 5 + 40; the project of commute is merged into the other one.
        plan = ("project", (A, C), ("join", "inner", 2, less(A, C), T, U))
        found, moves = ordered(plan, STATISTICS)
        self.assertEqual(found, ("project", (C, A), ("join", "inner", 2, less(C, A), U, T)))
        self.assertEqual(moves, [("commute", 0), ("merge projects", 0)])

    def test_an_order_that_is_not_cheaper_stays(self):
        for plan in (("project", (A,), ("join", "inner", 2, equal(A, C), T, U)), ("join", "inner", 2, TRUE, U, T), T,
                     ("project", (A,), ("join", "left", 2, less(A, C), T, U))):
            self.assertEqual(ordered(plan, STATISTICS), (plan, []))
        # Commute alone would cost the 40 rows of its project, and spare 3.
        plan = ("join", "inner", 2, TRUE, T, U)
        self.assertEqual(ordered(plan, STATISTICS), (plan, []))

    def test_joins_are_exchanged(self):
        inner = ("join", "inner", 2, less(A, C), T, U)
        plan = ("project", (D, E), ("join", "inner", 1, equal(A, E), inner, V))
        found, moves = ordered(plan, STATISTICS)
        self.assertEqual(moves[0][0], "exchange")
        self.assertLess(plan_cost(found, STATISTICS), plan_cost(plan, STATISTICS))
        self.assertEqual(found, make_moves(moves, plan, [2, 2, 1]))
        self.check_steps(plan, found, moves)

    def check_steps(self, plan, wanted, wanted_moves):
        """Go the way that the point tells, move by move."""
        widths = [len(table.columns) for table in STATISTICS]
        moves = []
        for _ in range(12):
            tried = []
            for rule in ("commute", "exchange"):
                for number in range(len(places(rule, plan, widths))):
                    move = (rule, number)
                    other, more = use_list(BEHIND, make_move(move, plan, widths), widths)
                    tried.append((plan_cost(other, STATISTICS), len(tried), other, [move] + more))
            best = min(tried, default=None, key=lambda one: one[:2])
            if best is None or best[0] >= plan_cost(plan, STATISTICS):
                break
            plan, moves = best[2], moves + best[3]
        self.assertTrue(is_exactly((plan, moves), (wanted, wanted_moves)))

    def test_random_joins(self):
        chance = random.Random(138)
        widths, changed = [2, 2, 1], 0
        for _ in range(120):
            plan, width = ("table", chance.randrange(3)), 0
            width = widths[plan[1]]
            for _ in range(chance.randrange(1, 5)):
                right = ("table", chance.randrange(3))
                w = widths[right[1]]
                sides = (column(chance.randrange(width)), column(width + chance.randrange(w)))
                condition = chance.choice([equal(*sides), less(*sides), TRUE, binary("and", equal(*sides), less(A, B))])
                plan = ("join", chance.choice(["inner"] * 4 + ["left"]), w, condition, plan, right)
                width += w
            plan = ("project", (A, column(width - 1)), plan)
            found, moves = ordered(plan, STATISTICS)
            changed += moves != []
            self.assertEqual(found, make_moves(moves, plan, widths))
            self.check_steps(plan, found, moves)
            tables = [LEFT, RIGHT, ONE]
            self.assertEqual(bag(rows_of(found, tables)), bag(rows_of(plan, tables)))
        self.assertGreater(changed, 30)


class Defaults(unittest.TestCase):
    def check(self, plan, moves, wanted):
        self.assertEqual(default_moves(plan, STATISTICS), moves)
        self.assertEqual(make_moves(moves, plan, [2, 2, 1]), wanted)

    def test_three_lists(self):
        self.check(T, [], T)
        # First the filter is folded and goes down; then the order; then what is not used is cut away.
        condition = binary("and", less(D, binary("add", constant(1), constant(1))), less(A, C))
        join = ("join", "inner", 2, TRUE, T, U)
        self.check(("project", (B, C), ("filter", condition, join)), [
            ("fold", 0), ("filter into join", 0), ("condition to sides", 0), ("commute", 0), ("merge projects", 0),
            ("prune join", 0),
        ], ("project", (C, A), ("join", "inner", 2, less(B, A),
                                ("project", (A,), ("filter", less(B, constant(2)), U)), T)))

    def test_the_last_list(self):
        left = ("join", "left", 1, equal(A, C), T, ("group", (), (("rows", None), ("sum", A)), U))
        plan = ("project", (A,), ("project", (A, B), left))
        self.check(plan, [("merge projects", 0), ("drop left join", 0)], ("project", (A,), T))
        plan = ("project", (B, A), ("union", T, ("project", (B, A), U)))
        self.check(plan, [("project below union", 0), ("merge projects", 0), ("drop project", 0)],
                   ("union", ("project", (B, A), T), U))

    def test_each_rule_of_the_first_list(self):
        filtered = ("filter", less(A, B), T)
        single = ("distinct", ("group", (A,), (), T))
        cases = [
            ("drop filter", ("filter", TRUE, T), T), ("merge filters", ("filter", A, ("filter", B, T)), None),
            ("distinct twice", ("distinct", ("distinct", T)), ("distinct", T)), ("distinct twice", single, single[1]),
            ("distinct union", ("distinct", ("union", filtered, ("distinct", T))), ("distinct", ("union", filtered, T))),
            ("distinct below group", ("group", (A,), (), ("distinct", T)), ("group", (A,), (), T)),
            ("drop top", ("top", ((A, True),), 0, None, T), T),
            ("top below union", ("top", (), 0, 1, ("union", T, filtered)), None),
            ("filter below union", ("filter", A, ("union", T, T)), None),
            ("filter below distinct", ("filter", A, ("distinct", T)), ("distinct", ("filter", A, T))),
            ("filter below group", ("filter", A, ("group", (A,), (), T)), None),
            ("filter below window", ("filter", A, ("window", (A,), (), (), T)), None),
            ("filter below project", ("filter", A, ("project", (B, TRUE), T)), None),
        ]
        for rule, plan, wanted in cases:
            self.assertEqual(default_moves(plan, STATISTICS), [(rule, 0)], plan)
            if wanted is not None:
                self.assertEqual(make_move((rule, 0), plan, [2, 2, 1]), wanted)
        plan = ("filter", less(C, A), ("join", "left", 2, equal(A, C), T, U))
        self.assertEqual(default_moves(plan, STATISTICS), [("left join to inner", 0), ("filter into join", 0)])
        plan = ("distinct", ("project", (A,), ("join", "inner", 2, equal(A, C), T, U)))
        self.assertEqual(default_moves(plan, STATISTICS)[:1], [("distinct join", 0)])

    def test_at_most_twelve_orders(self):
        plan = ("project", (A, C), ("join", "inner", 2, less(A, C), T, U))
        for _ in range(13):
            plan = ("union", plan, ("project", (A, C), ("join", "inner", 2, less(A, C), T, U)))
        _, moves = ordered(plan, STATISTICS)
        self.assertEqual([rule for rule, _ in moves], ["commute", "merge projects"] * 12)

    def test_an_example(self):
        text = ("from t join u on u.a = t.a and u.x like 'a*' where c > 1.5 and b is not null "
                "group by t.a as k aggregate count(*) as n")
        query = bind_query(text, CATALOG)
        moves = default_moves(query.plan, statistics_of([5, 2, 1], [[], [], []]))
        self.assertEqual(moves, [("fold", 0), ("filter into join", 0), ("condition to sides", 0)])

    def test_the_parts(self):
        chance = random.Random(139)
        for _ in range(250):
            plans = Plans(chance)
            plan, _ = plans.plan(chance.randrange(1, 6))
            tables = plans.tables(4)
            statistics = statistics_of(WIDTHS, tables)
            one, first = use_list(FIRST, plan, WIDTHS)
            two, second = ordered(one, statistics)
            three, third = use_list(LAST, two, WIDTHS)
            moves = default_moves(plan, statistics)
            self.assertTrue(is_exactly(moves, first + second + third))
            self.assertTrue(all(rule in RULES and number >= 0 for rule, number in moves))
            found = make_moves(moves, plan, WIDTHS)
            self.assertTrue(is_exactly(found, three))
            self.assertEqual(bag(rows_of(found, tables)), bag(rows_of(plan, tables)), (plan, moves))
