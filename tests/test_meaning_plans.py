"""Points 64, 66, 67, 72 and 73: the rows, the width and the tables of plans, and answers."""

import copy
import random
import unittest

from stylobate.errors import QueryError
from stylobate.language.catalog import Catalog
from stylobate.language.queries import Query, bind_query
from stylobate.meaning.groups import group_rows
from stylobate.meaning.joins import join_rows
from stylobate.meaning.operators import expressions_in, inputs_in, operators_in
from stylobate.meaning.order import sorted_rows
from stylobate.meaning.plans import answer_of, rows_of, tables_of, width_of
from stylobate.meaning.windows import window_rows
from stylobate.values.kinds import fits
from stylobate.values.order import row_rank
from tests.queries import CATALOG
from tests.queries import TABLES as DESCRIBED
from tests.random_queries import Maker
from tests.samples import binary, column, constant, is_exactly, ternary, unary

A, B = column(0), column(1)
EQUAL = binary("equal", A, column(2))
PEOPLE = [[1, "a"], [2, "b"], [None, "c"], [1, "a"], [3, "d"]]
THINGS = [[1, "x"], [1, "y"], [None, "z"], [2, "x"], [1, "x"]]
TABLES = [PEOPLE, THINGS, []]
WIDTHS = [2, 2, 3]
T, U, EMPTY = ("table", 0), ("table", 1), ("table", 2)
NUMBERS = ("rows", 1, ((3,), (1,), (2,), (1,)))
SMALL = binary("less", A, constant(3))


def bag(rows):
    """The rows as a list that is the same for equal bags."""
    return sorted(rows, key=row_rank)


def top(keys, skip, count, plan):
    return ("top", tuple(keys), skip, count, plan)


class Rows(unittest.TestCase):
    def check(self, plan, wanted, tables=TABLES):
        found = rows_of(plan, tables)
        self.assertTrue(is_exactly(bag(found), bag(wanted)), (plan, found))

    def test_tables_and_rows(self):
        self.check(T, PEOPLE)
        self.check(EMPTY, [])
        self.check(("table", 3), [])
        self.check(("table", 0), [], [])
        self.check(("rows", 2, ((1, "a"), [None, True], (1, "a"))), [[1, "a"], [None, True], [1, "a"]])
        self.check(("rows", 2, ()), [])
        self.check(("rows", 0, ((), ())), [[], []])

    def test_filter_and_project(self):
        self.check(("filter", SMALL, T), [[1, "a"], [2, "b"], [1, "a"]])
        self.check(("filter", constant(None), T), [])
        self.check(("filter", constant(1), T), [])
        self.check(("filter", SMALL, EMPTY), [])
        self.check(("project", (B, binary("add", A, A), constant(True)), T),
                   [["a", 2, True], ["b", 4, True], ["c", None, True], ["a", 2, True], ["d", 6, True]])
        self.check(("project", (), T), [[]] * 5)
        self.check(("project", (A,), EMPTY), [])
        self.check(("project", (column(5),), NUMBERS), [[None]] * 4)

    def test_joins(self):
        for kind in ("inner", "left", "some", "none", "never"):
            for condition in (EQUAL, constant(True), constant(False), constant(None)):
                for one, two in ((T, U), (U, T), (T, EMPTY), (EMPTY, T), (EMPTY, EMPTY)):
                    width = 2 if two != EMPTY else 3
                    wanted = join_rows(kind, width, condition, TABLES[one[1]], TABLES[two[1]])
                    self.check(("join", kind, width, condition, one, two), wanted)

    def test_groups_and_distinct(self):
        values = (("rows", None), ("sum", A))
        self.check(("group", (B,), values, T), group_rows((B,), values, PEOPLE))
        self.check(("group", (), values, EMPTY), [[0, None]])
        self.check(("group", (A,), values, EMPTY), [])
        self.assertEqual(rows_of(("group", (A,), (("rows", None),), T), TABLES), [[1, 2], [2, 1], [None, 1], [3, 1]])
        self.check(("distinct", T), [[1, "a"], [2, "b"], [None, "c"], [3, "d"]])
        self.check(("distinct", ("rows", 1, ((1,), (True,), (1,), (None,), (None,)))), [[1], [True], [None]])
        self.check(("distinct", EMPTY), [])

    def test_union(self):
        self.check(("union", T, U), PEOPLE + THINGS)
        self.check(("union", T, T), PEOPLE + PEOPLE)
        self.check(("union", EMPTY, T), PEOPLE)
        self.check(("union", EMPTY, EMPTY), [])

    def test_windows(self):
        functions = (("number", None, None, None), ("sum", A, (1, 0), None))
        self.check(("window", (B,), ((A, False),), functions, T), window_rows((B,), ((A, False),), functions, PEOPLE))
        self.check(("window", (), (), functions, EMPTY), [])

    def test_top_tells_its_list(self):
        wanted = [[3, "d"], [2, "b"], [1, "a"], [1, "a"], [None, "c"]]
        down = [(A, True)]
        for skip in range(7):
            for count in (None, 0, 1, 2, 5, 9, 10 ** 15):
                behind = None if count is None else skip + count
                found = rows_of(top(down, skip, count, T), TABLES)
                self.assertEqual(found, wanted[skip:behind])
        self.assertEqual(rows_of(top([], 0, 2, T), TABLES), [[None, "c"], [1, "a"]])
        self.assertEqual(rows_of(top(down, 0, None, EMPTY), TABLES), [])
        self.assertEqual(rows_of(top(down, 10 ** 15, None, T), TABLES), [])

    def test_nested(self):
        inner = ("join", "inner", 2, EQUAL, ("distinct", T), ("filter", binary("equal", B, constant("x")), U))
        grouped = ("group", (B,), (("rows", None),), inner)
        self.check(grouped, [["a", 2], ["b", 1]])
        self.check(("union", grouped, ("project", (B, A), top([(A, True)], 1, 1, T))), [["a", 2], ["b", 1], ["b", 2]])
        plan = T
        for _ in range(199):
            plan = ("filter", binary("or", SMALL, constant(True)), plan)
        self.check(plan, PEOPLE)
        self.assertEqual(width_of(plan, WIDTHS), 2)
        deep = T
        for _ in range(12):
            deep = ("union", top([], 0, 1, deep), top([], 0, 1, deep))
        self.check(deep, [[None, "c"]] * 2)

    def test_only_the_bags_of_tables_matter(self):
        chance = random.Random(66)
        plans = [T, ("filter", SMALL, T), ("distinct", T), ("union", T, U), ("join", "left", 2, EQUAL, T, U),
                 ("join", "never", 2, EQUAL, T, U), ("group", (A,), (("list", B),), ("union", U, T)),
                 ("window", (B,), ((A, True),), (("sum", A, (1, 0), None), ("first", A, None, None)), T),
                 top([(A, False)], 1, 3, U)]
        for plan in plans:
            wanted = bag(rows_of(plan, TABLES))
            for _ in range(10):
                tables = [chance.sample(rows, len(rows)) for rows in TABLES]
                self.assertEqual(bag(rows_of(plan, tables)), wanted)

    def test_new_lists(self):
        tables = copy.deepcopy(TABLES)
        for plan in (T, ("filter", constant(True), T), ("union", T, T), ("distinct", T), top([], 0, None, T),
                     ("rows", 1, ([1], [2])), ("join", "some", 2, EQUAL, T, U), ("window", (), (), (), T)):
            kept = copy.deepcopy(plan)
            found = rows_of(plan, tables)
            for row in found:
                row.append("more")
            self.assertTrue(all(row[-2:] != ["more", "more"] for row in found), plan)
            found.clear()
            self.assertEqual((plan, tables), (kept, TABLES))


class Widths(unittest.TestCase):
    def check(self, plan, wanted):
        self.assertEqual(width_of(plan, WIDTHS), wanted, plan)

    def test_of_each_operator(self):
        self.check(T, 2)
        self.check(EMPTY, 3)
        self.check(("rows", 2, ((1, 2), [3, 4])), 2)
        self.check(("rows", 4, ()), 4)
        self.check(("rows", 0, ((),)), 0)
        self.check(("filter", B, T), 2)
        self.check(("project", (A, A, constant(1)), T), 3)
        self.check(("project", (), T), 0)
        self.check(("distinct", EMPTY), 3)
        self.check(("union", T, U), 2)
        self.check(top([(B, True)], 1, None, T), 2)
        self.check(("group", (A, B), (("rows", None), ("sum", B), ("list", A)), T), 5)
        self.check(("group", (), (), T), 0)
        functions = (("number", None, None, None), ("tile", None, None, 2), ("before", B, None, 1))
        self.check(("window", (A,), ((B, False),), functions, T), 5)
        for kind, wanted in (("inner", 5), ("left", 5), ("some", 2), ("none", 2), ("never", 2)):
            self.check(("join", kind, 3, binary("same", A, column(4)), T, EMPTY), wanted)

    def test_tables_that_are_not_there(self):
        for plan in (("table", 3), ("table", 100)):
            self.check(plan, None)
            self.check(("filter", constant(True), plan), None)
            self.check(("project", (), plan), None)
            self.check(("union", plan, plan), None)
            self.check(("join", "some", 2, constant(True), T, plan), None)
            self.check(("group", (), (), plan), None)
        self.assertIsNone(width_of(T, []))

    def test_columns_that_are_not_there(self):
        number = ("number", None, None, None)
        for beyond in (column(2), unary("not", column(2)), ternary("part", A, B, column(9))):
            self.check(("filter", beyond, T), None)
            self.check(("project", (A, beyond), T), None)
            self.check(("group", (A, beyond), (), T), None)
            self.check(("group", (), (("rows", None), ("max", beyond)), T), None)
            self.check(("window", (beyond,), (), (number,), T), None)
            self.check(("window", (), ((A, True), (beyond, False)), (number,), T), None)
            self.check(("window", (), (), (number, ("first", beyond, None, None)), T), None)
            self.check(top([(beyond, False)], 0, None, T), None)
            self.check(("distinct", ("filter", beyond, T)), None)
        for kind in ("inner", "left", "some", "none", "never"):
            self.check(("join", kind, 2, column(3), T, U), 4 if kind in ("inner", "left") else 2)
            self.check(("join", kind, 2, column(4), T, U), None)
        self.check(("filter", A, ("project", (), T)), None)
        self.check(("filter", column(2), ("join", "some", 2, EQUAL, T, U)), None)

    def test_sides_that_do_not_fit(self):
        self.check(("union", T, EMPTY), None)
        self.check(("union", ("project", (A,), T), NUMBERS), 1)
        for kind in ("inner", "left", "some", "none", "never"):
            self.check(("join", kind, 3, constant(True), T, U), None)
            self.check(("join", kind, 1, constant(True), T, U), None)

    def test_rows_of_another_length(self):
        self.check(("rows", 2, ((1, 2), (1,))), None)
        self.check(("rows", 2, ((1, 2, 3),)), None)
        self.check(("rows", 0, ((1,),)), None)
        self.check(("distinct", ("rows", 1, ((),))), None)

    def test_rows_have_the_width(self):
        plans = [T, NUMBERS, ("join", "left", 2, EQUAL, T, U), ("group", (A,), (("rows", None),), T),
                 ("window", (), (), (("rank", None, None, None),), U), ("project", (A, B, A), T)]
        for plan in plans:
            width = width_of(plan, WIDTHS)
            self.assertTrue(all(len(row) == width for row in rows_of(plan, TABLES)))


class Tables(unittest.TestCase):
    def test_tables_of_plans(self):
        self.assertEqual(tables_of(NUMBERS), [])
        self.assertEqual(tables_of(T), [0])
        plan = ("union", ("join", "some", 2, EQUAL, ("table", 7), ("filter", A, ("table", 3))), ("table", 7))
        self.assertEqual(tables_of(plan), [3, 7])
        self.assertEqual(tables_of(("join", "left", 2, EQUAL, ("table", 12), ("table", 5))), [5, 12])

    def test_operators(self):
        join = ("join", "inner", 2, EQUAL, T, U)
        plan = ("filter", A, ("union", join, NUMBERS))
        self.assertEqual(operators_in(plan), [plan, plan[2], join, T, U, NUMBERS])
        self.assertEqual(inputs_in(join), [T, U])
        self.assertEqual(inputs_in(T), [])
        self.assertEqual(inputs_in(("rows", 1, (T, U))), [])
        self.assertEqual(inputs_in(top([], 0, None, join)), [join])
        self.assertEqual(expressions_in(join), [EQUAL])
        functions = (("rank", None, None, None), ("first", EQUAL, None, None))
        self.assertEqual(expressions_in(("window", (A,), ((B, True),), functions, T)), [A, B, EQUAL])
        self.assertEqual(expressions_in(("group", (A,), (("rows", None), ("sum", B)), T)), [A, B])
        for plan in (T, NUMBERS, ("distinct", T), ("union", T, U)):
            self.assertEqual(expressions_in(plan), [])


class Answers(unittest.TestCase):
    def answer(self, order, skip, limit, plan=T):
        return answer_of(Query(plan, ["a", "b"], ["int", "text"], order=order, skip=skip, limit=limit), TABLES)

    def test_order_and_cut(self):
        wanted = [[3, "d"], [2, "b"], [1, "a"], [1, "a"], [None, "c"]]
        self.assertEqual(self.answer([(A, True)], 0, None), wanted)
        self.assertEqual(self.answer([(A, True)], 1, 2), wanted[1:3])
        self.assertEqual(self.answer([(A, True)], 4, 10 ** 15), wanted[4:])
        self.assertEqual(self.answer([(A, True)], 5, None), [])
        self.assertEqual(self.answer([(A, True)], 0, 0), [])
        self.assertEqual(self.answer([], 0, None), sorted_rows(PEOPLE, []))
        self.assertEqual(self.answer([(A, True)], 0, None, EMPTY), [])

    def test_texts(self):
        columns = [("a", "int", True), ("b", "text", True)]
        catalog = Catalog([("t", columns), ("u", columns), ("e", columns + [("c", "int", True)])])

        def answer(text):
            return answer_of(bind_query(text, catalog), TABLES)
        self.assertEqual(answer("from t where a < 3 select b as x, a order by x desc"), [["b", 2], ["a", 1], ["a", 1]])
        self.assertEqual(answer("from t full join u as v on v.a = t.a where t.a is null or v.a is null"),
                         [[None, None, None, "z"], [None, "c", None, None], [3, "d", None, None]])
        self.assertEqual(answer("from t group by rollup b aggregate count(*) as n, grouping(b) as g order by n desc, b"),
                         [[None, 5, 1], ["a", 2, 0], ["b", 1, 0], ["c", 1, 0], ["d", 1, 0]])
        self.assertEqual(answer("from t where [a] not in (from u where a is not null select a)"), [[3, "d"]])
        self.assertEqual(answer("from t select a except (from u select a)"), [[3]])
        self.assertEqual(answer("from u select a intersect (from t select a)"), [[None], [1], [2]])
        self.assertEqual(answer("from e let k = (from t select a order by a desc)"), [])
        self.assertEqual(answer("from t distinct let k = (from u select b order by b desc) select b, k limit 2"),
                         [["a", "z"], ["b", "z"]])
        self.assertEqual(answer("from e aggregate count(*) as n, avg(a) as v"), [[0, None]])
        self.assertEqual(answer("from t aggregate avg(a) as v, list(b) where a = 1 as l"), [[17500, "a, a"]])
        self.assertEqual(answer("from t order by a nulls last limit 2 offset 1"), [[1, "a"], [2, "b"]])

    def rows_by_chance(self, chance, columns):
        pools = {"int": [0, 1, 2, -5], "text": ["", "a", "b"], "decimal": [0, 5000, -20000], "date": [0, 20512],
                 "bool": [True, False]}
        return [[None if nullable and chance.random() < 0.2 else chance.choice(pools[kind]) for _, kind, nullable in columns]
                for _ in range(chance.randrange(6))]

    def test_queries_by_chance_have_the_columns_that_are_told(self):
        chance = random.Random(73)
        told = 0
        for _ in range(400):
            text = Maker(chance).query()
            try:
                query = bind_query(text, CATALOG)
            except QueryError:
                continue
            self.assertEqual(width_of(query.plan, [len(columns) for _, columns in DESCRIBED]), len(query.names))
            for row in answer_of(query, [self.rows_by_chance(chance, columns) for _, columns in DESCRIBED]):
                self.assertEqual(len(row), len(query.kinds))
                for value, kind in zip(row, query.kinds):
                    self.assertTrue(value is None or fits(value, kind), text)
                    told += 1
        self.assertGreater(told, 1000)


if __name__ == "__main__":
    unittest.main()
