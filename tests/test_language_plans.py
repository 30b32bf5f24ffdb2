"""Points 43 to 45 and 59: what operators, calls and steps stand for."""

import unittest

from stylobate.language.catalog import Catalog
from stylobate.language.queries import Query, bind_query
from stylobate.language.values_of import bind_condition, bind_value
from tests.queries import CATALOG, TABLES, plan_of
from tests.samples import binary, choice, column, constant, is_exactly, ternary, unary

T, U, V = ("table", 0), ("table", 1), ("table", 2)
A, B, C, D, E = [column(k) for k in range(5)]
NONE, TRUE = constant(None), constant(True)
ALL = (A, B, C, D, E)
PARAMETERS = Catalog(TABLES, parameters=[5, "x", True, None, -3])


def value(text, kind, catalog=CATALOG):
    return bind_value(text, kind, catalog, TABLES[0][1])


def condition(text, catalog=CATALOG):
    return bind_condition(text, catalog, TABLES[0][1])


def decimal(number):
    return unary("as decimal", constant(number))


def lifted(expression):
    return unary("to decimal", expression)


class Operators(unittest.TestCase):
    def check(self, told):
        for text, wanted in told.items():
            found = condition(text)
            self.assertTrue(is_exactly(found, wanted), (text, found))

    def test_comparisons(self):
        one = constant(1)
        self.check({
            "a = 1": binary("equal", A, one), "a <> 1": unary("not", binary("equal", A, one)),
            "a != 1": unary("not", binary("equal", A, one)),
            "a < 1": binary("less", A, one), "a > 1": binary("less", one, A),
            "a <= 1": binary("at most", A, one), "a >= 1": binary("at most", one, A),
            "b like 'x*'": binary("like", B, constant("x*")),
            "b not like 'x*'": unary("not", binary("like", B, constant("x*"))),
            "a is null": unary("is null", A), "a is not null": unary("not", unary("is null", A)),
            "a between 1 and 2": binary("and", binary("at most", one, A), binary("at most", A, constant(2))),
            "a not between 1 and 2":
                unary("not", binary("and", binary("at most", one, A), binary("at most", A, constant(2)))),
        })

    def test_in(self):
        def equal(number):
            return binary("equal", A, constant(number))

        def either(first, second):
            return binary("or", first, second)

        self.check({
            "a in (1)": equal(1),
            "a not in (1)": unary("not", equal(1)),
            "a in (1, 2)": either(equal(1), equal(2)),
            "a in (1, 2, 3)": either(either(equal(1), equal(2)), equal(3)),
            "a in (1, 2, 3, 4)": either(either(equal(1), equal(2)), either(equal(3), equal(4))),
            "a not in (1, 2, 3, 4, 5)":
                unary("not", either(either(either(equal(1), equal(2)), equal(3)), either(equal(4), equal(5)))),
            "a in (1, 2, 3, 4, 5, 6, -7)":
                either(either(either(equal(1), equal(2)), either(equal(3), equal(4))),
                       either(either(equal(5), equal(6)), equal(-7))),
            "d in (date '1970-01-02')": binary("equal", D, unary("as date", constant(1))),
            "c in (1, 2.5)": either(binary("equal", C, lifted(constant(1))), binary("equal", C, decimal(25000))),
            "a in (1, 2.5)": either(equal(1), binary("equal", lifted(A), decimal(25000))),
        })

    def test_integers_beside_decimals(self):
        half, five = decimal(5000), constant(5)
        self.check({
            "a = c": binary("equal", lifted(A), C), "c = a": binary("equal", C, lifted(A)),
            "a <> 0.5": unary("not", binary("equal", lifted(A), half)),
            "c > 5": binary("less", lifted(five), C), "a >= c": binary("at most", C, lifted(A)),
            "a < c": binary("less", lifted(A), C), "c <= 5": binary("at most", C, lifted(five)),
            "c between 5 and 0.5":
                binary("and", binary("at most", lifted(five), C), binary("at most", C, half)),
            "a between 5 and 0.5":
                binary("and", binary("at most", five, A), binary("at most", lifted(A), half)),
            "same(a, c)": binary("same", lifted(A), C),
        })
        told = {
            "a + c": binary("add", lifted(A), C), "c - 5": binary("subtract", C, lifted(five)),
            "a * c": binary("multiply decimals", lifted(A), C), "c * c": binary("multiply decimals", C, C),
            "c / a": binary("divide decimals", C, lifted(A)), "5 mod c": binary("rest", lifted(five), C),
            "c mod c": binary("rest", C, C), "c + c": binary("add", C, C), "-c": unary("negate", C),
            "coalesce(a, c)": binary("coalesce", lifted(A), C), "least(c, 5)": binary("least", C, lifted(five)),
            "greatest(a, c)": binary("greatest", lifted(A), C),
            "case when e then a else c end": choice(E, lifted(A), C),
            "case when e then c else null end": choice(E, C, NONE),
        }
        for text, wanted in told.items():
            self.assertEqual(value(text, "decimal"), wanted, text)

    def test_arithmetic(self):
        two = constant(2)
        told = {"a + 2": binary("add", A, two), "a - 2": binary("subtract", A, two), "a * 2": binary("multiply", A, two),
                "a / 2": binary("divide", A, two), "a mod 2": binary("rest", A, two), "-a": unary("negate", A),
                "d - d": binary("subtract", D, D)}
        for text, wanted in told.items():
            self.assertEqual(value(text, "int"), wanted, text)
        self.assertEqual(value("b || 'x'", "text"), binary("join", B, constant("x")))

    def test_dates(self):
        told = {"d + a": binary("add days", D, A), "a + d": binary("add days", D, A),
                "d - a": binary("add days", D, unary("negate", A)),
                "d - 1": binary("add days", D, unary("negate", constant(1))),
                "date '1970-01-02' + -1": binary("add days", unary("as date", constant(1)), constant(-1)),
                "add_days(d, a)": binary("add days", D, A), "add_months(d, 2)": binary("add months", D, constant(2))}
        for text, wanted in told.items():
            self.assertEqual(value(text, "date"), wanted, text)

    def test_parameters(self):
        for number, worth in ((1, 5), (2, "x"), (3, True), (5, -3)):
            kind = {int: "int", str: "text", bool: "bool"}[type(worth)]
            self.assertTrue(is_exactly(value(f"${number}", kind, PARAMETERS), constant(worth)))
        self.assertEqual(value("$4", "int", PARAMETERS), NONE)
        self.assertEqual(value("coalesce($1, a)", "int", PARAMETERS), binary("coalesce", constant(5), A))
        self.assertEqual(value("case when $3 then $4 else c end", "decimal", PARAMETERS), choice(TRUE, NONE, C))
        self.assertEqual(value("-$1", "int", PARAMETERS), unary("negate", constant(5)))


class Calls(unittest.TestCase):
    def test_one_operand(self):
        for name in ("lower", "upper", "trim"):
            self.assertEqual(value(f"{name}(b)", "text"), unary(name, B))
        self.assertEqual(value("length(b)", "int"), unary("length", B))
        for text, wanted in (("abs(a)", unary("abs", A)), ("sign(a)", unary("sign", A)), ("sign(c)", unary("sign", C))):
            self.assertEqual(value(text, "int"), wanted)
        self.assertEqual(value("abs(c)", "decimal"), unary("abs", C))
        for name in ("year", "month", "day", "weekday"):
            self.assertEqual(value(f"{name}(d)", "int"), unary(name, D))
        for name in ("month", "year", "week"):
            self.assertEqual(value(f"{name}_start(d)", "date"), unary(name + " start", D))

    def test_conversions(self):
        told = [("int(a)", "int", A), ("int(c)", "int", unary("to int", C)), ("int(b)", "int", unary("text to int", B)),
                ("decimal(c)", "decimal", C), ("decimal(a)", "decimal", lifted(A)),
                ("decimal(b)", "decimal", unary("text to decimal", B)), ("text(b)", "text", B),
                ("text(a)", "text", unary("int to text", A)), ("text(d)", "text", unary("date to text", D)),
                ("text(c)", "text", unary("decimal to text", C)), ("date(d)", "date", D),
                ("date(b)", "date", unary("text to date", B)), ('"date"(b)', "date", unary("text to date", B))]
        for text, kind, wanted in told:
            self.assertEqual(value(text, kind), wanted, text)

    def test_two_and_three_operands(self):
        self.assertEqual(value("coalesce(b, 'x')", "text"), binary("coalesce", B, constant("x")))
        self.assertEqual(value("same(b, 'x')", "bool"), binary("same", B, constant("x")))
        self.assertEqual(value("position('x', b)", "int"), binary("position", B, constant("x")))
        self.assertEqual(value("least(d, d)", "date"), binary("least", D, D))
        one, two = constant(1), constant(2)
        self.assertEqual(value("part(b, 1, 2)", "text"), ternary("part", B, one, two))
        self.assertEqual(value("split(b, 'x', 2)", "text"), ternary("split", B, constant("x"), two))
        self.assertEqual(value("pad(b, 'x', 2)", "text"), ternary("pad", B, constant("x"), two))
        self.assertEqual(value("replace(b, 'x', 'y')", "text"), ternary("replace", B, constant("x"), constant("y")))

    def test_defined_functions(self):
        catalog = Catalog(TABLES, functions=["twice(x) = x * 2", "f(x, y) = twice(x) + y", "g(x) = coalesce(x, x)",
                                             "k(x) = 7", 'lowered(s, "select") = lower(s) || "select"'])
        two = constant(2)
        self.assertEqual(value("twice(a)", "int", catalog), binary("multiply", A, two))
        self.assertEqual(value("twice(c)", "decimal", catalog), binary("multiply decimals", C, lifted(two)))
        self.assertEqual(value("f(a, c)", "decimal", catalog),
                         binary("add", lifted(binary("multiply", A, two)), C))
        self.assertEqual(value("f(twice(a), 1)", "int", catalog),
                         binary("add", binary("multiply", binary("multiply", A, two), two), constant(1)))
        self.assertEqual(value("g(b)", "text", catalog), binary("coalesce", B, B))
        self.assertEqual(value("k(null)", "int", catalog), constant(7))
        self.assertEqual(value("lowered(b, 'x')", "text", catalog), binary("join", unary("lower", B), constant("x")))


class Steps(unittest.TestCase):
    def check(self, text, wanted):
        found = plan_of(text)
        self.assertTrue(is_exactly(found, wanted), (text, found))

    def test_sources(self):
        self.check("from t", T)
        self.check("from u as x", U)
        self.check("from (from u) as x", U)
        self.check("with x as (from u where true) from x", ("filter", TRUE, U))
        self.check("with t as (from u) from t", U)
        self.check("with x as (from t) with x as (from u) from x", U)
        self.check("with x as (from t) with y as (from x) with x as (from u) from y", T)
        self.check("with x as (from t) from (with x as (from u) from x) as y", U)
        self.check("with x as (from t) from (from x) as y", T)

    def test_plain_steps(self):
        self.check("from t where e", ("filter", E, T))
        self.check("from t select c, a + 1 as x", ("project", (C, binary("add", A, constant(1))), T))
        self.check("from t extend a as x, 1 as y", ("project", ALL + (A, constant(1)), T))
        self.check("from t distinct", ("distinct", T))
        self.check("from t distinct distinct", ("distinct", ("distinct", T)))

    def test_joins(self):
        equal = binary("equal", A, column(5))
        self.check("from t join u on t.a = u.a", ("join", "inner", 2, equal, T, U))
        self.check("from t left join u on t.a = u.a", ("join", "left", 2, equal, T, U))
        self.check("from t cross join u", ("join", "inner", 2, TRUE, T, U))
        self.check("from u join (from t where e) as s on x = b",
                   ("join", "inner", 5, binary("equal", column(1), column(3)), U, ("filter", E, T)))

    def test_full_join(self):
        condition_of = binary("and", binary("equal", A, column(5)), binary("equal", column(6), B))
        turned = binary("and", binary("equal", column(2), column(0)), binary("equal", column(1), column(3)))
        self.check("from t full join u on t.a = u.a and x = b",
                   ("union", ("join", "left", 2, condition_of, T, U),
                    ("project", (NONE,) * 5 + (column(0), column(1)), ("join", "none", 5, turned, U, T))))

    def test_exists_and_in(self):
        equal = binary("equal", B, column(6))
        self.check("from t where exists u on b = x", ("join", "some", 2, equal, T, U))
        self.check("from t where not exists u as k on b = k.x", ("join", "none", 2, equal, T, U))
        self.check("from t where exists (from u) as k on true select a", ("project", (A,), ("join", "some", 2, TRUE, T, U)))
        self.check("from t where [a + 1] in (from v)",
                   ("join", "some", 1, binary("equal", binary("add", A, constant(1)), column(5)), T, V))
        self.check("from t where [a, b] not in (from u)",
                   ("join", "never", 2, binary("and", binary("equal", A, column(5)), binary("equal", B, column(6))), T, U))
        self.check("from t where [a, b, a] in (from u extend a as y)",
                   ("join", "some", 3, binary("and", binary("equal", A, column(5)),
                                              binary("and", binary("equal", B, column(6)), binary("equal", A, column(7)))),
                    T, ("project", (A, B, A), U)))

    def test_let(self):
        def let(first):
            return ("join", "left", 1, TRUE, T, first)

        key = ((A, False),)
        self.check("from t let x = (from v)", let(("top", (), 0, 1, V)))
        self.check("from t let x = (from v order by n)", let(("top", key, 0, 1, V)))
        self.check("from t let x = (from v order by n limit 5 offset 2)", let(("top", key, 2, 1, V)))
        self.check("from t let x = (from v limit 0)", let(("top", (), 0, 0, V)))
        self.check("from t let x = (from v limit 5 limit 3)", let(("top", (), 0, 1, ("top", (), 0, 5, V))))
        self.check("from t let x = (from v limit 5 distinct)", let(("top", (), 0, 1, ("distinct", ("top", (), 0, 5, V)))))
        self.check("from t let x = (from (from v limit 5) as k)", let(("top", (), 0, 1, ("top", (), 0, 5, V))))
        self.check("with k as (from v limit 5) from t let x = (from k)", let(("top", (), 0, 1, ("top", (), 0, 5, V))))

    def test_sets_of_rows(self):
        self.check("from u union (from u where true)", ("union", U, ("filter", TRUE, U)))
        same = binary("and", binary("same", A, column(2)), binary("same", B, column(3)))
        self.check("from u intersect (from u)", ("distinct", ("join", "some", 2, same, U, U)))
        self.check("from u except (from u)", ("distinct", ("join", "none", 2, same, U, U)))
        self.check("from v except (from v)", ("distinct", ("join", "none", 1, binary("same", A, B), V, V)))
        three = binary("and", binary("same", A, D), binary("and", binary("same", B, E), binary("same", C, column(5))))
        self.check("from u extend a as y intersect (from u extend a as y)",
                   ("distinct", ("join", "some", 3, three, ("project", (A, B, A), U), ("project", (A, B, A), U))))
        self.check("from v union (from v order by n limit 1)", ("union", V, ("top", ((A, False),), 0, 1, V)))

    def test_orders(self):
        def key(text):
            return plan_of(f"from t order by {text} limit 7 distinct")[1][1]

        null = unary("is null", A)
        self.assertEqual(key("a"), ((A, False),))
        self.assertEqual(key("a asc"), ((A, False),))
        self.assertEqual(key("a desc"), ((A, True),))
        self.assertEqual(key("a nulls first"), ((A, False),))
        self.assertEqual(key("a desc nulls last"), ((A, True),))
        self.assertEqual(key("a nulls last"), ((null, False), (A, False)))
        self.assertEqual(key("a asc nulls last, b desc"), ((null, False), (A, False), (B, True)))
        self.assertEqual(key("a desc nulls first"), ((null, True), (A, True)))

    def test_the_last_step(self):
        query = bind_query("from t order by a desc nulls first, b limit 3 offset 2", CATALOG)
        self.assertIsInstance(query, Query)
        self.assertEqual(query.plan, T)
        self.assertEqual(query.order, [(unary("is null", A), True), (A, True), (B, False)])
        self.assertEqual((query.skip, query.limit), (2, 3))
        query = bind_query("from t order by a limit 3 order by b", CATALOG)
        self.assertEqual(query.plan, ("top", ((A, False),), 0, 3, T))
        self.assertEqual((query.order, query.skip, query.limit), ([(B, False)], 0, None))
        query = bind_query("from t order by a distinct", CATALOG)
        self.assertEqual(query.plan, ("distinct", ("top", ((A, False),), 0, None, T)))
        self.assertEqual((query.order, query.skip, query.limit), ([], 0, None))
        query = bind_query("from t offset 4", CATALOG)
        self.assertEqual((query.plan, query.order, query.skip, query.limit), (T, [], 4, None))
        query = bind_query("with x as (from t limit 5) from x", CATALOG)
        self.assertEqual((query.plan, query.limit), (("top", (), 0, 5, T), None))

    def test_window(self):
        self.check("from t window partition by b, d order by a desc, c nulls last compute number() as n, rank() as r, "
                   "dense() as q, tile(4) as w, sum(a) as s, count(b) as k, "
                   "min(c) rows 1 before and 0 after as m, max(d) as g, first(e) as f, last(a) as l, "
                   "before(a) as x, after(a, 3) as y, before(b, 0) as z",
                   ("window", (B, D), ((A, True), (unary("is null", C), False), (C, False)),
                    (("number", None, None, None), ("rank", None, None, None), ("dense", None, None, None),
                     ("tile", None, None, 4), ("sum", A, None, None), ("count", B, None, None), ("min", C, (1, 0), None),
                     ("max", D, None, None), ("first", E, None, None), ("last", A, None, None), ("before", A, None, 1),
                     ("after", A, None, 3), ("before", B, None, 0)), T))
        for name in ("sum", "count", "min", "max", "first", "last"):
            self.check(f"from v window compute {name}(n) rows 0 before and 9 after as s",
                       ("window", (), (), ((name, A, (0, 9), None),), V))
        self.check("from v window compute sum(n + 1) rows 2 before and 3 after as s",
                   ("window", (), (), (("sum", binary("add", A, constant(1)), (2, 3), None),), V))

    def test_query_fields_are_lists_of_their_own(self):
        names, kinds, order = ["a"], ["int"], [(A, False)]
        query = Query(T, names, kinds, order=order, skip=1, limit=2)
        names.append("b")
        kinds.append("int")
        order.append((B, True))
        self.assertEqual((query.plan, query.names, query.kinds, query.order, query.skip, query.limit),
                         (T, ["a"], ["int"], [(A, False)], 1, 2))
        query = Query(T, ("a",), ("int",))
        self.assertEqual((query.names, query.kinds, query.order, query.skip, query.limit), (["a"], ["int"], [], 0, None))


class Groups(unittest.TestCase):
    def check(self, text, wanted):
        found = plan_of(text)
        self.assertTrue(is_exactly(found, wanted), (text, found))

    def test_without_choices(self):
        self.check("from t group by a, b", ("group", (A, B), (), T))
        self.check("from t group by a + 1 as k aggregate count(*) as n",
                   ("group", (binary("add", A, constant(1)),), (("rows", None),), T))
        self.check("from t aggregate count(*) as n, sum(a) as s", ("group", (), (("rows", None), ("sum", A)), T))

    def test_aggregates(self):
        self.check("from t aggregate count(*) as a, count(b) as b, count(distinct b) as c, sum(c) as d, min(b) as e, "
                   "max(d) as f, avg(a) as g, avg(c) as h, every(e) as i, some(e) as j, list(b) as k",
                   ("group", (), (("rows", None), ("count", B), ("distinct", B), ("sum", C), ("min", B), ("max", D),
                                  ("average", A), ("average decimal", C), ("every", E), ("some", E), ("list", B)), T))
        self.check("from t aggregate count(*) where e as a, count(b) where e as b, count(distinct b) where e as c, "
                   "avg(a) where e as d, avg(c) where e as f, list(b) where a > 1 as g",
                   ("group", (), (("count", choice(E, TRUE, NONE)), ("count", choice(E, B, NONE)),
                                  ("distinct", choice(E, B, NONE)), ("average", choice(E, A, NONE)),
                                  ("average decimal", choice(E, C, NONE)),
                                  ("list", choice(binary("less", constant(1), A), B, NONE))), T))

    def choice_of(self, items, keys, values, table=T):
        return ("project", items, ("group", keys, values, table))

    def test_rollup(self):
        rows = (("rows", None),)
        self.check("from t group by rollup a, b aggregate count(*) as n",
                   ("union", ("union", self.choice_of((column(0), column(1), column(2)), (A, B), rows),
                              self.choice_of((column(0), NONE, column(1)), (A,), rows)),
                    self.choice_of((NONE, NONE, column(0)), (), rows)))

    def test_cube(self):
        self.check("from t group by cube a, b",
                   ("union", ("union", ("union", self.choice_of((column(0), column(1)), (A, B), ()),
                                        self.choice_of((column(0), NONE), (A,), ())),
                              self.choice_of((NONE, column(0)), (B,), ())),
                    self.choice_of((NONE, NONE), (), ())))
        plan = plan_of("from t group by cube a, b, c")
        keys = []
        while plan[0] == "union":
            keys.insert(0, plan[2][2][1])
            plan = plan[1]
        keys.insert(0, plan[2][1])
        self.assertEqual(keys, [(A, B, C), (A, B), (A, C), (A,), (B, C), (B,), (C,), ()])

    def test_sets(self):
        self.check("from t group by a, b as k sets (k, a, k), (k), (k)",
                   ("union", ("union", self.choice_of((column(0), column(1)), (A, B), ()),
                              self.choice_of((NONE, column(0)), (B,), ())),
                    self.choice_of((NONE, column(0)), (B,), ())))
        self.check("from t group by a sets () aggregate sum(a) as s",
                   self.choice_of((NONE, column(0)), (), (("sum", A),)))

    def test_grouping(self):
        self.check("from t group by a aggregate grouping(a) as g, count(*) as n",
                   self.choice_of((column(0), constant(0), column(1)), (A,), (("rows", None),)))
        self.check("from t group by rollup a as k aggregate sum(c) as s, grouping(k) where e as g, count(*) as n",
                   ("union",
                    self.choice_of((column(0), column(1), constant(0), column(2)), (A,), (("sum", C), ("rows", None))),
                    self.choice_of((NONE, column(0), constant(1), column(1)), (), (("sum", C), ("rows", None)))))


if __name__ == "__main__":
    unittest.main()
