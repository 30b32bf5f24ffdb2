"""Points 119, 124 and 125: where each rule applies, and what it makes of a plan."""

import random
import unittest

from stylobate.meaning.operators import expressions_in, many_columns, operators_in
from stylobate.meaning.plans import rows_of, width_of
from stylobate.optimizer.moves import places
from stylobate.optimizer.rules import RULES, use_rule
from stylobate.values.expressions import depth_of
from tests.random_plans import WIDTHS, Plans, bag
from tests.samples import binary, choice, column, constant, is_exactly, unary

A, B, C, D, E = [column(number) for number in range(5)]
ONE = constant(1)
TRUE, FALSE = constant(True), constant(False)
# Tables of two, three and one columns.
T, U, V = ("table", 0), ("table", 1), ("table", 2)


def both(*conditions):
    """Conditions joined as the rules join them."""
    if len(conditions) == 1:
        return conditions[0]
    half = len(conditions) // 2
    return binary("and", both(*conditions[:half]), both(*conditions[half:]))


def equal(one, two):
    return binary("equal", one, two)


def less(one, two):
    return binary("less", one, two)


def add(one, two):
    return binary("add", one, two)


class Rules(unittest.TestCase):
    def check(self, rule, plan, wanted, widths=WIDTHS):
        found = use_rule(rule, plan, widths)
        self.assertTrue(is_exactly(found, wanted), (rule, found))

    def refuse(self, rule, *plans):
        for plan in plans:
            self.assertIsNone(use_rule(rule, plan, WIDTHS), (rule, plan))


class Filters(Rules):
    def test_fold(self):
        two = add(ONE, ONE)
        folded = constant(2)
        self.check("fold", ("filter", equal(A, two), T), ("filter", equal(A, folded), T))
        self.check("fold", ("project", (A, two, two), T), ("project", (A, folded, folded), T))
        self.check("fold", ("join", "left", 3, less(two, A), T, U), ("join", "left", 3, less(folded, A), T, U))
        self.check("fold", ("group", (two, A), (("rows", None), ("sum", two)), T),
                   ("group", (folded, A), (("rows", None), ("sum", folded)), T))
        self.check("fold", ("window", (two,), ((two, True),), (("number", None, None, None), ("sum", two, (1, 2), None)),
                            T),
                   ("window", (folded,), ((folded, True),),
                    (("number", None, None, None), ("sum", folded, (1, 2), None)), T))
        self.check("fold", ("top", ((two, False), (A, True)), 1, None, T),
                   ("top", ((folded, False), (A, True)), 1, None, T))
        self.check("fold", ("filter", binary("and", FALSE, A), T), ("filter", FALSE, T))
        self.refuse("fold", ("filter", equal(A, ONE), T), ("project", (), T), T, ("distinct", T), ("union", T, T),
                    ("rows", 1, ((1,),)), ("group", (), (("rows", None),), T), ("distinct", ("filter", two, T)),
                    ("filter", binary("and", TRUE, A), T))

    def test_drop_filter(self):
        self.check("drop filter", ("filter", TRUE, T), T)
        self.refuse("drop filter", ("filter", FALSE, T), ("filter", ONE, T), ("filter", constant(None), T),
                    ("filter", A, T), ("filter", binary("and", TRUE, TRUE), T), ("project", (TRUE,), T))

    def test_merge_filters(self):
        self.check("merge filters", ("filter", A, ("filter", B, T)), ("filter", both(B, A), T))
        self.check("merge filters", ("filter", both(A, C), ("filter", both(B, D, E), T)),
                   ("filter", both(B, D, E, A, C), T))
        self.refuse("merge filters", ("filter", A, T), ("filter", A, ("distinct", ("filter", B, T))))

    def test_filter_below_project(self):
        below = ("project", (B, add(A, B), ONE), T)
        self.check("filter below project", ("filter", less(B, C), below),
                   ("project", below[1], ("filter", less(add(A, B), ONE), T)))
        # What is plain may stand often, what is not only once.
        self.check("filter below project", ("filter", both(A, A, C, C), below),
                   ("project", below[1], ("filter", both(B, B, ONE, ONE), T)))
        self.refuse("filter below project", ("filter", less(B, B), below), ("filter", A, T))
        self.check("filter below project", ("filter", TRUE, ("project", (), T)), ("project", (), ("filter", TRUE, T)))

    def test_filter_below_union_and_distinct(self):
        self.check("filter below union", ("filter", A, ("union", T, ("rows", 2, ()))),
                   ("union", ("filter", A, T), ("filter", A, ("rows", 2, ()))))
        self.refuse("filter below union", ("filter", A, ("distinct", T)), ("union", T, T))
        self.check("filter below distinct", ("filter", A, ("distinct", T)), ("distinct", ("filter", A, T)))
        self.refuse("filter below distinct", ("filter", A, ("union", T, T)), ("distinct", ("filter", A, T)))

    def test_filter_below_group(self):
        group = ("group", (B, add(A, ONE)), (("rows", None),), U)
        self.check("filter below group", ("filter", both(less(B, A), C), group),
                   ("filter", C, group[:3] + (("filter", less(add(A, ONE), B), U),)))
        self.check("filter below group", ("filter", both(A, C, B), group),
                   ("filter", C, group[:3] + (("filter", both(B, add(A, ONE)), U),)))
        self.check("filter below group", ("filter", A, group), group[:3] + (("filter", B, U),))
        # A condition without columns uses only columns of keys.
        self.check("filter below group", ("filter", both(C, FALSE), group),
                   ("filter", C, group[:3] + (("filter", FALSE, U),)))
        self.refuse("filter below group", ("filter", C, group), ("filter", less(B, C), group),
                    ("filter", both(B, B), group), ("filter", TRUE, ("group", (), (("rows", None),), T)),
                    ("filter", A, T))

    def test_filter_below_window(self):
        functions = (("number", None, None, None),)
        window = ("window", (C, A, add(B, ONE)), ((B, True),), functions, U)
        self.check("filter below window", ("filter", both(less(A, C), B, D), window),
                   ("filter", both(B, D), window[:4] + (("filter", less(A, C), U),)))
        self.check("filter below window", ("filter", both(A, C), window), window[:4] + (("filter", both(A, C), U),))
        self.check("filter below window", ("filter", both(B, TRUE), window),
                   ("filter", B, window[:4] + (("filter", TRUE, U),)))
        self.refuse("filter below window", ("filter", less(A, B), window), ("filter", D, window),
                    ("filter", A, ("window", (), (), functions, U)), ("filter", A, T),
                    # A function is no part, though the column of its number stands among the parts.
                    ("filter", D, ("window", (D,), (), functions, U)))

    def test_filter_into_join(self):
        on = equal(A, C)
        self.check("filter into join", ("filter", both(B, D), ("join", "inner", 3, on, T, U)),
                   ("join", "inner", 3, both(on, B, D), T, U))
        join = ("join", "left", 3, on, T, U)
        self.check("filter into join", ("filter", both(B, D, A), join),
                   ("filter", D, ("join", "left", 3, on, ("filter", both(B, A), T), U)))
        self.check("filter into join", ("filter", B, join), ("join", "left", 3, on, ("filter", B, T), U))
        self.check("filter into join", ("filter", both(C, FALSE), join),
                   ("filter", C, ("join", "left", 3, on, ("filter", FALSE, T), U)))
        self.refuse("filter into join", ("filter", C, join), ("filter", less(B, C), join), ("filter", A, T))
        for kind in ("some", "none", "never"):
            self.check("filter into join", ("filter", both(A, B), ("join", kind, 3, on, T, U)),
                       ("join", kind, 3, on, ("filter", both(A, B), T), U))

    def test_left_join_to_inner(self):
        join = ("join", "left", 3, equal(A, C), T, U)
        inner = ("join", "inner") + join[2:]
        for condition in (equal(C, ONE), both(A, less(D, B)), unary("not", unary("is null", E))):
            self.check("left join to inner", ("filter", condition, join), ("filter", condition, inner))
        self.refuse("left join to inner", ("filter", equal(A, B), join), ("filter", unary("is null", C), join),
                    ("filter", binary("or", C, A), join), ("filter", equal(C, ONE), inner), ("filter", C, T), join)


class Joins(Rules):
    def test_condition_to_sides_inner_and_some(self):
        for kind in ("inner", "some"):
            condition = both(A, C, equal(B, D), TRUE, FALSE, less(D, E))
            self.check("condition to sides", ("join", kind, 3, condition, T, U),
                       ("join", kind, 3, equal(B, D), ("filter", both(A, FALSE), T), ("filter", both(A, less(B, C)), U)))
            self.check("condition to sides", ("join", kind, 3, B, T, U), ("join", kind, 3, TRUE, ("filter", B, T), U))
            self.check("condition to sides", ("join", kind, 3, both(TRUE, equal(A, C), TRUE, D), T, U),
                       ("join", kind, 3, equal(A, C), T, ("filter", B, U)))
            self.refuse("condition to sides", ("join", kind, 3, TRUE, T, U), ("join", kind, 3, both(TRUE, TRUE), T, U),
                        ("join", kind, 3, equal(A, C), T, U), ("join", kind, 3, both(TRUE, equal(A, C)), T, U))

    def test_condition_to_sides_of_other_kinds(self):
        for kind in ("left", "none"):
            self.check("condition to sides", ("join", kind, 3, both(A, C, FALSE), T, U),
                       ("join", kind, 3, both(A, FALSE), T, ("filter", A, U)))
            self.refuse("condition to sides", ("join", kind, 3, A, T, U), ("join", kind, 3, FALSE, T, U))
        self.refuse("condition to sides", ("join", "never", 3, both(A, C), T, U), ("filter", A, T))

    def test_project_above_join(self):
        project = ("project", (B, add(A, B), ONE), T)
        condition = both(equal(A, D), less(B, column(5)))
        on = both(equal(B, C), less(add(A, B), E))
        for kind in ("inner", "left"):
            self.check("project above join", ("join", kind, 3, condition, project, U),
                       ("project", project[1] + (C, D, E), ("join", kind, 3, on, T, U)))
        for kind in ("some", "none", "never"):
            self.check("project above join", ("join", kind, 3, condition, project, U),
                       ("project", project[1], ("join", kind, 3, on, T, U)))
        self.refuse("project above join", ("join", "inner", 3, less(B, B), project, U),
                    ("join", "inner", 3, TRUE, T, ("project", (A,), U)), project)
        self.check("project above join", ("join", "inner", 3, less(A, A), project, U),
                   ("project", project[1] + (C, D, E), ("join", "inner", 3, less(B, B), T, U)))

    def test_commute(self):
        join = ("join", "inner", 3, both(equal(A, D), less(B, E)), T, U)
        self.check("commute", join, ("project", (D, E, A, B, C),
                                     ("join", "inner", 2, both(equal(D, B), less(E, C)), U, T)))
        for kind in ("left", "some", "none", "never"):
            self.refuse("commute", ("join", kind) + join[2:])
        self.check("commute", ("join", "inner", 0, A, T, ("project", (), U)),
                   ("project", (A, B), ("join", "inner", 2, A, ("project", (), U), T)))

    def test_associate(self):
        inner = ("join", "inner", 3, equal(A, C), T, U)
        outer = ("join", "inner", 1, both(equal(column(5), D), B), inner, V)
        self.check("associate", outer, ("join", "inner", 4, both(equal(A, C), equal(column(5), D), B), T,
                                        ("join", "inner", 1, TRUE, U, V)))
        self.refuse("associate", inner, ("join", "left") + outer[2:], ("join", "inner", 1, TRUE, ("join", "left") + inner[2:], V),
                    ("join", "inner", 5, TRUE, V, inner))

    def test_exchange(self):
        inner = ("join", "inner", 3, both(equal(A, C), B), T, U)
        outer = ("join", "inner", 1, both(equal(column(5), A), less(E, column(5)), TRUE, D), inner, V)
        # Of the six columns 0 and 1 stay, 2 to 4 become 3 to 5, and 5 becomes 2.
        self.check("exchange", outer, (
            "project", (A, B, D, E, column(5), C),
            ("join", "inner", 3, both(both(equal(A, D), B), less(column(5), C), E),
             ("join", "inner", 1, both(equal(C, A), TRUE), T, V), U)))
        self.check("exchange", ("join", "inner", 1, D, ("join", "inner", 3, TRUE, T, U), V), (
            "project", (A, B, D, E, column(5), C),
            ("join", "inner", 3, both(TRUE, E), ("join", "inner", 1, TRUE, T, V), U)))
        self.refuse("exchange", inner, ("join", "left") + outer[2:], ("join", "inner", 1, TRUE, ("join", "some") + inner[2:], V))


class Projects(Rules):
    def test_merge_projects(self):
        below = ("project", (B, add(A, B), ONE), T)
        self.check("merge projects", ("project", (add(A, C), B, A), below),
                   ("project", (add(B, ONE), add(A, B), B), T))
        self.check("merge projects", ("project", (), below), ("project", (), T))
        self.refuse("merge projects", ("project", (B, B), below), ("project", (add(B, B),), below), below)

    def test_drop_project(self):
        self.check("drop project", ("project", (A, B), T), T)
        self.check("drop project", ("project", (A, B, C, D, E), ("join", "inner", 3, TRUE, T, U)),
                   ("join", "inner", 3, TRUE, T, U))
        self.check("drop project", ("project", (), ("project", (), T)), ("project", (), T))
        self.refuse("drop project", ("project", (A,), T), ("project", (B, A), T), ("project", (A, B, A), T),
                    ("project", (A, ONE), T), ("project", (A, B), ("table", 9)), ("filter", A, T))

    def test_project_below_union(self):
        self.check("project below union", ("project", (B,), ("union", T, ("distinct", T))),
                   ("union", ("project", (B,), T), ("project", (B,), ("distinct", T))))
        self.refuse("project below union", ("project", (B,), T))

    def test_prune_group(self):
        group = ("group", (A,), (("rows", None), ("sum", B), ("min", B)), T)
        self.check("prune group", ("project", (C, A), group), ("project", (B, A), ("group", (A,), (("sum", B),), T)))
        self.check("prune group", ("project", (add(D, B),), group),
                   ("project", (add(C, B),), ("group", (A,), (("rows", None), ("min", B)), T)))
        self.check("prune group", ("project", (ONE,), ("group", (), (("rows", None),), T)),
                   ("project", (ONE,), ("group", (), (), T)))
        self.refuse("prune group", ("project", (B, C, D), group), ("project", (B,), ("group", (A, B), (), T)),
                    ("project", (A,), T))

    def test_prune_window(self):
        one, two, three = [("sum", column(at), None, None) for at in (0, 1, 0)]
        window = ("window", (A,), ((B, True),), (one, two, three), T)
        self.check("prune window", ("project", (D, A, E), window),
                   ("project", (C, A, D), ("window", (A,), ((B, True),), (two, three), T)))
        self.check("prune window", ("project", (B, add(A, D)), window),
                   ("project", (B, add(A, C)), ("window", (A,), ((B, True),), (two,), T)))
        self.check("prune window", ("project", (B, A), window), ("project", (B, A), T))
        self.refuse("prune window", ("project", (C, D, E), window), ("project", (A,), T))

    def test_prune_join(self):
        join = ("join", "inner", 3, equal(B, D), T, U)
        self.check("prune join", ("project", (E, B), join),
                   ("project", (C, A), ("join", "inner", 2, equal(A, B), ("project", (B,), T), ("project", (B, C), U))))
        self.check("prune join", ("project", (A, C), join),
                   ("project", (A, C), ("join", "inner", 2, equal(B, D), T, ("project", (A, B), U))))
        self.check("prune join", ("project", (B, C, D, E), join),
                   ("project", (A, B, C, D), ("join", "inner", 3, equal(A, C), ("project", (B,), T), U)))
        for kind in ("some", "none", "never"):
            self.check("prune join", ("project", (A,), ("join", kind) + join[2:]),
                       ("project", (A,), ("join", kind, 1, equal(B, C), T, ("project", (B,), U))))
        self.check("prune join", ("project", (), ("join", "left", 3, TRUE, T, U)),
                   ("project", (), ("join", "left", 0, TRUE, ("project", (), T), ("project", (), U))))
        self.refuse("prune join", ("project", (A, C, E), join), ("project", (A,), T),
                    ("project", (A,), ("join", "some", 1, equal(B, C), T, V)))

    def test_drop_left_join(self):
        for single in (("rows", 1, ((1,),)), ("rows", 1, ()), ("group", (), (("rows", None),), T), ("top", (), 5, 1, V),
                       ("top", (), 0, 0, V), ("filter", A, ("top", (), 0, 1, V)),
                       ("project", (A,), ("distinct", ("filter", A, ("rows", 1, ((1,),))))),):
            join = ("join", "left", 1, equal(A, C), T, single)
            self.check("drop left join", ("project", (B, A, ONE), join), ("project", (B, A, ONE), T))
            self.refuse("drop left join", ("project", (B, C), join), ("project", (A,), ("join", "inner") + join[2:]), join)
        for many in (V, ("rows", 1, ((1,), (1,))), ("group", (A,), (), V), ("top", (), 0, 2, V), ("top", (), 0, None, V),
                     ("union", ("rows", 1, ()), ("rows", 1, ())), ("distinct", V),
                     ("window", (), (), (), ("rows", 1, ((1,),)))):
            self.refuse("drop left join", ("project", (A,), ("join", "left", 1, TRUE, T, many)))


class Others(Rules):
    def test_distinct_twice(self):
        group = ("group", (A,), (), T)
        self.check("distinct twice", ("distinct", ("distinct", T)), ("distinct", T))
        self.check("distinct twice", ("distinct", group), group)
        self.refuse("distinct twice", ("distinct", T), ("distinct", ("filter", A, ("distinct", T))))

    def test_distinct_union(self):
        one, two = ("distinct", T), ("filter", A, T)
        self.check("distinct union", ("distinct", ("union", one, two)), ("distinct", ("union", T, two)))
        self.check("distinct union", ("distinct", ("union", two, one)), ("distinct", ("union", two, T)))
        self.check("distinct union", ("distinct", ("union", one, one)), ("distinct", ("union", T, one)))
        self.refuse("distinct union", ("distinct", ("union", two, two)), ("distinct", one), ("union", one, one))

    def test_distinct_join(self):
        join = ("join", "inner", 3, equal(A, C), T, U)
        self.check("distinct join", ("distinct", ("project", (add(A, B), ONE), join)),
                   ("distinct", ("project", (add(A, B), ONE), ("join", "some") + join[2:])))
        self.check("distinct join", ("distinct", ("project", (), join)),
                   ("distinct", ("project", (), ("join", "some") + join[2:])))
        self.refuse("distinct join", ("distinct", ("project", (A, C), join)), ("distinct", join),
                    ("distinct", ("project", (A,), ("join", "left") + join[2:])), ("distinct", ("project", (A,), T)))

    def test_distinct_below_group(self):
        for names in ([], ["distinct"], ["min", "max"], ["every", "some", "min"]):
            values = tuple([(name, B) for name in names])
            self.check("distinct below group", ("group", (A,), values, ("distinct", T)), ("group", (A,), values, T))
        for name in ("count", "sum", "average", "average decimal", "list"):
            self.refuse("distinct below group", ("group", (A,), (("min", B), (name, B)), ("distinct", T)))
        self.refuse("distinct below group", ("group", (), (("rows", None),), ("distinct", T)), ("group", (A,), (), T))

    def test_drop_top(self):
        self.check("drop top", ("top", ((A, True),), 0, None, T), T)
        self.refuse("drop top", ("top", (), 1, None, T), ("top", (), 0, 0, T), ("top", (), 0, 9, T))

    def test_top_below_project(self):
        project = ("project", (B, add(A, B), ONE), T)
        self.check("top below project", ("top", ((B, True), (A, False)), 2, 3, project), (
            "project", project[1],
            ("top", ((add(A, B), True), (B, False), (B, False), (add(A, B), False), (ONE, False)), 2, 3, T)))
        self.check("top below project", ("top", (), 0, None, project),
                   ("project", project[1], ("top", ((B, False), (add(A, B), False), (ONE, False)), 0, None, T)))
        self.refuse("top below project", ("top", ((B, True), (unary("abs", B), False)), 0, 1, project),
                    ("top", (), 0, 1, T))

    def test_top_below_union(self):
        keys = ((A, True),)
        side = ("top", keys, 0, 5, T)
        other = ("top", (), 7, None, T)
        self.check("top below union", ("top", keys, 2, 3, ("union", T, ("distinct", T))),
                   ("top", keys, 2, 3, ("union", side, ("top", keys, 0, 5, ("distinct", T)))))
        self.check("top below union", ("top", keys, 2, 3, ("union", other, T)),
                   ("top", keys, 2, 3, ("union", other, side)))
        self.check("top below union", ("top", keys, 0, 0, ("union", T, other)),
                   ("top", keys, 0, 0, ("union", ("top", keys, 0, 0, T), other)))
        self.refuse("top below union", ("top", keys, 2, None, ("union", T, T)), ("top", keys, 2, 3, T),
                    ("top", keys, 2, 3, ("union", side, other)))


def deep(depth):
    """An expression of this depth."""
    expression = A
    for _ in range(depth - 1):
        expression = unary("negate", expression)
    return expression


class Everywhere(Rules):
    def test_the_names(self):
        self.assertEqual(RULES, (
            "fold", "drop filter", "merge filters", "filter below project", "filter below union",
            "filter below distinct", "filter below group", "filter below window", "filter into join",
            "condition to sides", "left join to inner", "merge projects", "drop project", "project below union",
            "project above join", "prune group", "prune window", "prune join", "commute", "associate", "exchange",
            "distinct twice", "distinct union", "distinct join", "distinct below group", "drop left join", "drop top",
            "top below project", "top below union"))

    def test_only_the_first_operator_is_looked_at(self):
        for rule in RULES:
            self.refuse(rule, ("window", (), (), (), ("filter", TRUE, ("filter", TRUE, T))), T, ("rows", 0, ()),
                        ("union", ("distinct", ("distinct", T)), ("top", (), 0, None, T)))

    def test_no_expression_becomes_deeper_than_150(self):
        plan = ("project", (deep(76),), ("project", (deep(75),), T))
        self.check("merge projects", plan, ("project", (deep(150),), T))
        self.refuse("merge projects", ("project", (deep(76),), ("project", (deep(76),), T)))
        self.check("filter below project", ("filter", deep(76), ("project", (deep(75),), T)),
                   ("project", (deep(75),), ("filter", deep(150), T)))
        self.refuse("filter below project", ("filter", deep(77), ("project", (deep(75),), T)))
        # All expressions of the result count, also those that stay as they were.
        self.check("drop filter", ("filter", TRUE, ("filter", deep(150), T)), ("filter", deep(150), T))
        self.refuse("drop filter", ("filter", TRUE, ("filter", deep(151), T)), ("filter", TRUE, ("top", ((deep(151), True),), 0, 1, T)))
        self.check("drop filter", ("filter", TRUE, ("group", (), (("sum", deep(150)),), T)),
                   ("group", (), (("sum", deep(150)),), T))
        self.refuse("drop filter", ("filter", TRUE, ("group", (), (("sum", deep(151)),), T)),
                    ("filter", TRUE, ("window", (), (), (("sum", deep(151), None, None),), T)),
                    ("filter", TRUE, ("union", T, ("project", (deep(151),), T))))
        # An expression that is folded away is not in the result.
        never = choice(TRUE, A, deep(160))
        self.check("fold", ("project", (never,), T), ("project", (A,), T))

    def test_the_bag_and_the_width_are_kept(self):
        chance = random.Random(119)
        used = dict.fromkeys(RULES, 0)
        for _ in range(900):
            plans = Plans(chance)
            plan, width = plans.plan(chance.randrange(1, 6))
            tables = plans.tables(4)
            self.assertEqual(many_columns(plan, WIDTHS), width)
            wanted = bag(rows_of(plan, tables))
            for rule in RULES:
                for found in places(rule, plan, WIDTHS):
                    used[rule] += 1
                    self.assertEqual(width_of(found, WIDTHS), width, (rule, plan))
                    self.assertEqual(bag(rows_of(found, tables)), wanted, (rule, plan, found, tables))
        self.assertEqual([rule for rule in RULES if used[rule] == 0], [])

    def test_plans_that_are_made_for_rules_that_are_rare(self):
        chance = random.Random(120)
        many = 0
        for _ in range(400):
            plans = Plans(chance)
            left, m = plans.plan(1)
            right, width = plans.plan(1)
            inner = ("join", "inner", width, plans.join_condition(m, width), left, right)
            below = chance.choice([
                ("distinct", ("project", plans.expressions(m, 2), inner)),
                ("distinct", ("union", ("distinct", left), chance.choice([left, ("distinct", left)]))),
                ("filter", plans.condition(m + width), ("join", "left") + inner[2:]),
                ("project", plans.expressions(m, 2), ("join", "left", width, inner[3], left, ("top", (), 0, 1, right))),
                ("join", "inner", m, plans.join_condition(m + width, m), inner, left),
            ])
            tables = plans.tables(4)
            wanted = bag(rows_of(below, tables))
            for rule in RULES:
                found = use_rule(rule, below, WIDTHS)
                if found is not None:
                    many += 1
                    self.assertEqual(bag(rows_of(found, tables)), wanted, (rule, below, found, tables))
        self.assertGreater(many, 400)

    def test_columns_that_are_not_there_stay_none(self):
        # The column 3 of two joined columns is None; it must not become one of another side.
        inner = ("join", "inner", 1, unary("is null", D), V, V)
        tables = [[], [], [[1], [2]]]
        plan = ("join", "inner", 1, TRUE, inner, V)
        for rule in ("associate", "exchange", "commute"):
            found = use_rule(rule, plan, WIDTHS)
            self.assertEqual(bag(rows_of(found, tables)), bag(rows_of(plan, tables)), rule)
        self.assertEqual(len(rows_of(plan, tables)), 8)

    def test_a_table_that_is_not_there(self):
        gone = ("table", len(WIDTHS))
        self.refuse("commute", ("join", "inner", 2, TRUE, gone, T))
        self.refuse("condition to sides", ("join", "inner", 2, A, gone, T))
        self.check("drop filter", ("filter", TRUE, gone), gone)

    def test_no_expression_of_the_result_is_deeper(self):
        chance = random.Random(150)
        for _ in range(60):
            plans = Plans(chance)
            plan, _ = plans.plan(3)
            for rule in RULES:
                for found in places(rule, plan, WIDTHS):
                    for operator in operators_in(found):
                        self.assertTrue(all(depth_of(part) <= 150 for part in expressions_in(operator)))
