"""Points 100 to 102: what physical plans mean, and their operators."""

import copy
import itertools
import random
import unittest

from stylobate.meaning.groups import group_rows
from stylobate.meaning.joins import join_rows
from stylobate.meaning.plans import rows_of
from stylobate.meaning.windows import window_rows
from stylobate.running.physical import inputs_of, meaning_of, operators_of, pair_value
from stylobate.values.expressions import evaluate
from stylobate.values.order import row_rank
from tests.samples import binary, column, constant, is_exactly, unary

A, B = column(0), column(1)
TRUE = constant(True)
PEOPLE = [[1, "a"], [2, "b"], [None, "c"], [1, "a"], [3, "d"]]
THINGS = [[1, "x"], [1, "y"], [None, "z"], [2, "x"], [1, "x"]]
TABLES = [PEOPLE, THINGS, []]
T = ("scan", 0, TRUE, (0, 1))
U = ("scan", 1, TRUE, (0, 1))
EMPTY = ("scan", 2, TRUE, (0, 1))
KINDS = ("inner", "left", "some", "none", "never")
WAYS = ("hash right", "hash left", "merge", "loop")
LESS = binary("less", B, column(3))


def bag(rows):
    """The rows as a list that is the same for equal bags."""
    return sorted(rows, key=row_rank)


def join(kind, left, right, rest, a=T, b=U, way="loop"):
    return ("join", way, kind, 2, left, right, rest, a, b)


class Meanings(unittest.TestCase):
    def check(self, plan, wanted, tables=TABLES):
        found = meaning_of(plan, tables)
        self.assertTrue(is_exactly(bag(found), bag(wanted)), (plan, found))

    def test_scans(self):
        self.check(T, PEOPLE)
        self.check(EMPTY, [])
        self.check(("scan", 3, TRUE, (0, 1)), [])
        self.check(("scan", 0, TRUE, ()), [[]] * 5)
        self.check(("scan", 0, TRUE, (1,)), [["a"], ["b"], ["c"], ["a"], ["d"]])
        self.check(("scan", 0, TRUE, (1, 0, 1)), [[b, a, b] for a, b in PEOPLE])
        # The condition is on the columns of the table, not on those that are told.
        small = binary("less", A, constant(3))
        self.check(("scan", 0, small, (1,)), [["a"], ["b"], ["a"]])
        self.check(("scan", 0, constant(None), (0,)), [])
        self.check(("scan", 0, constant(1), (0,)), [])

    def test_operators_that_plans_have_too(self):
        functions = (("rank", None, None, None), ("sum", A, (1, 0), None))
        inner = ("union", T, ("rows", 2, ((5, "e"), [None, None])))
        self.check(inner, PEOPLE + [[5, "e"], [None, None]])
        self.check(("rows", 1, ((1,), (True,), (1,))), [[1], [True], [1]])
        self.check(("rows", 1, ()), [])
        self.check(("filter", binary("equal", B, constant("a")), inner), [[1, "a"]] * 2)
        self.check(("project", (B, constant(0)), T), [[b, 0] for _, b in PEOPLE])
        self.check(("project", (), T), [[]] * 5)
        self.check(("window", (B,), ((A, True),), functions, T), window_rows((B,), ((A, True),), functions, PEOPLE))

    def test_groups_and_distinct_in_every_way(self):
        values = (("rows", None), ("sum", A))
        for way in ("hash", "sort"):
            self.check(("group", way, (B,), values, T), group_rows((B,), values, PEOPLE))
            self.check(("group", way, (), values, T), [[5, 7]])
            self.check(("group", way, (), values, EMPTY), [[0, None]])
            self.check(("group", way, (A,), values, EMPTY), [])
            self.check(("distinct", way, T), [[1, "a"], [2, "b"], [None, "c"], [3, "d"]])
            self.check(("distinct", way, ("rows", 1, ((1,), (True,), (1,), (None,)))), [[1], [True], [None]])
            self.check(("distinct", way, EMPTY), [])

    def test_top_is_in_order(self):
        wanted = [[3, "d"], [2, "b"], [1, "a"], [1, "a"], [None, "c"]]
        for skip, count in itertools.product(range(7), [None, 0, 1, 3, 9]):
            behind = None if count is None else skip + count
            self.assertEqual(meaning_of(("top", ((A, True),), skip, count, T), TABLES), wanted[skip:behind])
        self.assertEqual(meaning_of(("top", (), 0, 1, T), TABLES), [[None, "c"]])

    def test_joins_with_keys_and_rest(self):
        pairs = [[1, "a", 1, "x"], [1, "a", 1, "y"], [1, "a", 1, "x"]] * 2 + [[2, "b", 2, "x"]]
        for way in WAYS:
            self.check(join("inner", (A,), (A,), TRUE, way=way), pairs)
            self.check(join("left", (A,), (A,), TRUE, way=way), pairs + [[None, "c", None, None], [3, "d", None, None]])
            self.check(join("some", (A,), (A,), TRUE, way=way), [[1, "a"], [1, "a"], [2, "b"]])
            self.check(join("none", (A,), (A,), TRUE, way=way), [[None, "c"], [3, "d"]])
            self.check(join("never", (A,), (A,), TRUE, way=way), [])
            self.check(join("never", (A,), (A,), TRUE, b=("rows", 2, ((2, 0), (1, 0))), way=way), [[3, "d"]])
        # The keys of the right side count their columns from 0, the rest from those of the left side.
        self.check(join("inner", (B,), (B,), TRUE, a=U, b=U), [
            row + other for row in THINGS for other in THINGS if row[1] == other[1]])
        self.check(join("some", (A,), (A,), binary("equal", column(3), constant("y"))), [[1, "a"], [1, "a"]])
        self.check(join("left", (), (), constant(False)), [row + [None, None] for row in PEOPLE])

    def test_a_join_means_what_its_condition_does(self):
        keys = [(), (A,), (B,), (A, B), (unary("negate", A),), (constant(1), B)]
        rests = [TRUE, constant(False), constant(None), constant(1), LESS, binary("same", A, column(2))]
        tables = [[[1, 1], [1, None], [None, 2], [2, 2], [True, 1]], [[1, 1], [2, 2], [None, 1], [True, True]], []]
        for left, right, rest, kind in itertools.product(keys, keys, rests, KINDS):
            condition = TRUE
            for one, two in zip(left, right):
                moved = binary("equal", one, self.on_the_right(two))
                condition = binary("and", condition, moved)
            condition = binary("and", condition, rest)
            for a, b in ((T, U), (U, T), (T, EMPTY), (EMPTY, U)):
                wanted = join_rows(kind, 2, condition, tables[a[1]], tables[b[1]])
                self.check(join(kind, left, right, rest, a, b), wanted, tables)

    def on_the_right(self, expression):
        if expression[0] == "column":
            return column(expression[1] + 2)
        if expression[0] == "unary":
            return unary(expression[1], self.on_the_right(expression[2]))
        return expression

    def test_nested(self):
        plan = ("project", (B, column(2)), ("filter", LESS, join("inner", (A,), (A,), TRUE)))
        self.check(plan, [["a", 1]] * 6 + [["b", 2]])
        self.check(("top", (), 1, 1, ("distinct", "sort", ("union", plan, plan))), [["b", 2]])
        for _ in range(199):
            plan = ("filter", TRUE, plan)
        self.check(plan, [["a", 1]] * 6 + [["b", 2]])

    def test_tables_stay_as_they_are(self):
        tables = copy.deepcopy(TABLES)
        for plan in (T, ("union", T, T), ("filter", TRUE, T), join("some", (A,), (A,), TRUE), ("top", (), 0, None, T)):
            for row in meaning_of(plan, tables):
                row.append(0)
            self.assertEqual(tables, TABLES)

    def test_as_plans_do(self):
        """A scan stands for a project over a filter over a table."""
        chance = random.Random(101)
        for _ in range(100):
            columns = tuple(chance.randrange(2) for _ in range(chance.randrange(4)))
            condition = binary(chance.choice(["less", "equal", "at most"]), A, constant(chance.randrange(4)))
            number = chance.randrange(4)
            plan = ("project", tuple(column(k) for k in columns), ("filter", condition, ("table", number)))
            self.check(("scan", number, condition, columns), rows_of(plan, TABLES))


class Pairs(unittest.TestCase):
    def test_all_parts(self):
        told = {True: constant(True), False: constant(False), None: constant(None)}
        values = {True: (1, 1), False: (1, 2), None: (None, 1)}
        for first, second, rest in itertools.product(told, told, told):
            r = [values[first][0], values[second][0]]
            s = [values[first][1], values[second][1]]
            parts = [first, second, rest]
            wanted = False if False in parts else None if None in parts else True
            self.assertIs(pair_value((A, B), (A, B), told[rest], r, s), wanted)
            self.assertIs(pair_value([A, B], [A, B], told[rest], r, s), wanted)

    def test_keys_and_rest(self):
        self.assertIs(pair_value((), (), TRUE, [], []), True)
        self.assertIs(pair_value((), (), constant(5), [], []), None)
        self.assertIs(pair_value((A,), (B,), TRUE, [1], [0, 1]), True)
        self.assertIs(pair_value((A,), (A,), TRUE, [1], [True]), None)
        self.assertIs(pair_value((), (), binary("equal", A, column(2)), [1, 0], [1]), True)
        # A key without one on the other side is left out.
        self.assertIs(pair_value((A, constant(9)), (A,), TRUE, [1], [1]), True)
        self.assertIs(pair_value((A,), (A, constant(None)), TRUE, [1], [1]), True)
        self.assertIs(pair_value((A,), (), constant(False), [1], [2]), False)
        self.assertIs(pair_value((A,), (), TRUE, [1], [2]), True)

    def test_it_is_the_conjunction(self):
        rows = [[a, b] for a in (None, 1, 2, True) for b in (None, 1, "a")]
        condition = binary("and", binary("equal", A, column(3)), LESS)
        for r, s in itertools.product(rows, rows):
            self.assertIs(pair_value((A,), (B,), LESS, r, s), evaluate(condition, r + s))


class Operators(unittest.TestCase):
    def test_inputs(self):
        both = join("inner", (A,), (A,), TRUE)
        self.assertEqual(inputs_of(T), [])
        self.assertEqual(inputs_of(("rows", 1, ((1,),))), [])
        self.assertEqual(inputs_of(both), [T, U])
        self.assertEqual(inputs_of(("union", U, EMPTY)), [U, EMPTY])
        for one in (("filter", A, both), ("project", (A,), both), ("group", "hash", (A,), (), both),
                    ("distinct", "sort", both), ("window", (), (), (), both), ("top", (), 0, None, both)):
            self.assertEqual(inputs_of(one), [both])
            self.assertEqual(operators_of(one), [one, both, T, U])
        inputs_of(both).clear()
        self.assertEqual(inputs_of(both), [T, U])

    def test_each_ahead_of_its_inputs_the_left_one_first(self):
        left, right = ("filter", A, T), ("distinct", "hash", U)
        inner = join("left", (), (), TRUE, left, right)
        plan = ("union", inner, ("union", EMPTY, left))
        self.assertEqual(operators_of(plan), [plan, inner, left, T, right, U, plan[2], EMPTY, left, T])


if __name__ == "__main__":
    unittest.main()
