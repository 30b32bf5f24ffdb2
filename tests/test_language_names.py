"""Points 46 to 58: faults of names, kinds and sizes, and the columns that each step leaves."""

import unittest

from stylobate.language.catalog import Catalog
from stylobate.language.queries import bind_query, relation_of
from stylobate.language.values_of import bind_condition, bind_value
from stylobate.values.expressions import depth_of, size_of
from stylobate.values.kinds import KINDS, kind_of
from tests.queries import CATALOG, TABLES, fault_of, place_of, plan_of, query_fault
from tests.samples import binary, column, constant, unary

KINDS_FAULT = "the kinds do not fit"
CONDITION = "a condition is expected"
COLUMNS_FAULT = "the columns do not fit"
TOO_LARGE = "the expression is too large"
TOO_DEEP = "the expression is nested too deeply"


class Faults(unittest.TestCase):
    def check(self, marked, reason, catalog=CATALOG):
        text, offset = place_of(marked)
        self.assertEqual(query_fault(text, catalog), (offset, reason), marked)

    def test_sources(self):
        self.check("from ^x", "unknown table x")
        self.check("from t join ^x on y = 1", "unknown table x")
        self.check("from (from ^x) as t", "unknown table x")
        self.check('from ^"no table"', "unknown table no table")
        self.check("with x as (from ^x) from t", "unknown table x")
        self.check("with x as (from t) from t union (with y as (from t) from y) union (from ^y)", "unknown table y")
        self.check("with y as (with x as (from t) from x) from ^x", "unknown table x")
        self.check("with x as (from t where ^z) from nothing", "unknown column z")

    def test_named_queries(self):
        catalog = Catalog(TABLES, queries=[("q", "from t where a > 1"), ("r", "from q select a"), ("bad", "from nothing"),
                                           ("worse", "from bad"), ("para", "from t where a = $1"), ("broken", "from from"),
                                           ("early", "from late"), ("late", "from t"), ("v", "from u limit 1")],
                          parameters=[1])
        self.assertIsNone(query_fault("from q join r on q.a = r.a where q.a = $1", catalog))
        for name in ("bad", "worse", "para", "broken", "early"):
            self.check(f"from t where exists ^{name} on true", f"this query cannot be used: {name}", catalog)
        self.assertEqual(plan_of("from late", catalog), ("table", 0))
        self.assertEqual(plan_of("from v", catalog), ("top", (), 0, 1, ("table", 1)))
        self.assertEqual(plan_of("with q as (from v) from q", catalog), ("top", (), 0, 1, ("table", 1)))
        self.check("with x as (from t) from r union (from ^nothing)", "unknown table nothing", catalog)
        other = catalog.with_queries([("q", "with t as (from u) from t")])
        self.assertEqual(plan_of("from q", other), ("table", 1))
        self.check("from ^r", "unknown table r", other)
        self.assertEqual(plan_of("with t as (from v) from q", other), ("table", 1))

    def test_names_of_with_do_not_reach_named_queries(self):
        catalog = Catalog(TABLES, queries=[("q", "from x")])
        self.check("with x as (from t) from ^q", "this query cannot be used: q", catalog)

    def test_two_tables_of_one_name(self):
        for step in ("join t on true", "left join t on true", "full join u as t on true", "cross join (from u) as t",
                     "where exists t on true", "where not exists u as t on true"):
            self.check(f"from t ^{step}", "two tables go by the name t")
        self.check("from t cross join u ^join u on nothing", "two tables go by the name u")
        self.check("from t as x join u on true ^join v as x on true", "two tables go by the name x")
        self.check("from t join ^x as t on true", "unknown table x")
        self.assertIsNone(query_fault("from t select a join t on true"))
        self.assertIsNone(query_fault("from t join t as s on t.a = s.a"))
        self.assertIsNone(query_fault("from t where exists u on true join u on true"))

    def test_columns(self):
        self.check("from t where ^x = 1", "unknown column x")
        self.check("from t where ^u.a = 1", "unknown column a")
        self.check("from t where ^t.x = 1", "unknown column x")
        self.check("from t as s where ^t.a = 1", "unknown column a")
        self.check("from t join u on ^a = 1", "more than one column a")
        self.check("from t join u on true where ^a = 1", "more than one column a")
        self.assertIsNone(query_fault("from t join u on t.a = u.a where u.a = 1 and x = 'y'"))
        self.check("from (from t join u on true) as k where ^k.a = 1", "more than one column a")
        self.check("from t where exists u on u.a = t.a where ^u.a = 1", "unknown column a")
        self.check("from t where [^x] in (from v)", "unknown column x")
        self.check("from t where [a] in (from v) where ^n = 1", "unknown column n")
        self.check("from t select a where ^b = 'x'", "unknown column b")
        self.check("from t select a where ^t.a = 1", "unknown column a")
        self.check("from t let k = (from v where n = ^a) ", "unknown column a")
        self.check("from t extend a as k, ^k as l", "unknown column k")
        self.check("from t order by ^k", "unknown column k")
        self.check("from t window partition by ^k compute number() as n", "unknown column k")
        self.check("from t window compute sum(^n) as n", "unknown column n")
        self.check("from t aggregate sum(^k) as s", "unknown column k")

    def test_parameters_dates_and_calls(self):
        self.check("from t where a = ^$1", "a parameter is not given")
        self.check("from t where a = $1 + ^$3", "a parameter is not given", Catalog(TABLES, parameters=[1, 2]))
        self.check("from t where d = ^date '2026-02-29'", "invalid date")
        self.check("from t where a = 1 and d = ^DATE 'x'", "invalid date")
        self.check("from t where d ^in (date '2026-01-01', date '')", "invalid date")
        self.check("from t where d ^not in (null, date '2026-13-01')", "invalid date")
        self.check("from t where ^k in (date '')", "unknown column k")
        self.check("from t where a ^in ('x', date '')", "invalid date")
        self.check("from t where ^f(a) = 1", "unknown function f")
        self.check("from t where ^lower(b, b) = 1", "unknown function lower")
        self.check("from t where ^coalesce(a) = 1", "unknown function coalesce")
        self.check("from t where ^part(a, 1) = 1", "unknown function part")
        self.check("from t where f(^k) = 1", "unknown column k")
        self.check("from t where ^f(1 + 2, $1) = 1", "unknown function f", Catalog(TABLES, parameters=[1]))
        self.check("from t ^where f(1 + 'x') = 1", KINDS_FAULT)

    def test_defined_functions(self):
        catalog = Catalog(TABLES, functions=["f(x) = g(x)", "g(x) = x + 1", "h(x) = f(x)", "two(x, y) = g(x) + y"])
        self.check("from t where ^f(a) = 1", "this function cannot be used: f", catalog)
        self.check("from t where ^h(a) = 1", "this function cannot be used: h", catalog)
        self.check("from t where ^f(a, a) = 1", "unknown function f", catalog)
        self.check("from t where ^two(a) = 1", "unknown function two", catalog)
        self.check("from t where f(^k) = 1", "unknown column k", catalog)
        self.assertIsNone(query_fault("from t where two(a, 1) = g(a)", catalog))
        self.check("from t ^where g(b) = 1", KINDS_FAULT, catalog)
        self.check("from t select a, ^g(b)", KINDS_FAULT, catalog)

    def test_kinds(self):
        for marked in ("a = 'x'", "a + b = 1", "a and e", "not a", "lower(a) = 'x'", "-b = 'x'", "e < 1", "a || b = 'x'",
                       "d + d = d", "d - 1.5 = d", "1 - d = 1", "a like 'x'", "a between 'x' and 'y'", "a in ('x')",
                       "a in (1, null)", "null is null", "a = null", "null and e", "not null", "text(null) = 'x'",
                       "case when a then 1 else 2 end = 1", "case when e then 1 else 'x' end = 1",
                       "case when e then null else null end", "coalesce(a, null) = 1", "date(a) = d", "int(d) = 1",
                       "month(a) = 1", "a in (date '2026-01-01')", "e in (1, true)", "d < 1", "- e"):
            self.check(f"from t ^where {marked}", KINDS_FAULT)
        self.check("from t ^where null", KINDS_FAULT)
        self.check("from t ^where coalesce(null, 1) = 1", KINDS_FAULT)

    def test_conditions(self):
        self.check("from t ^where a", CONDITION)
        self.check("from t distinct ^where 'true'", CONDITION)
        self.check("from t ^join u on x", CONDITION)
        self.check("from t ^left join u on 1", CONDITION)
        self.check("from t ^full join u on 1.5", CONDITION)
        self.check("from t ^where exists u on x", CONDITION)
        self.check("from t ^where not exists u on null", KINDS_FAULT)
        self.check("from t aggregate count(*) as n, ^sum(a) where b as s", CONDITION)
        self.check("from t aggregate ^sum(a) where null as s", KINDS_FAULT)
        self.check("from t group by a aggregate ^grouping(a) where 1 as g", CONDITION)

    def test_where_faults_of_kinds_stand(self):
        self.check("from t select a, ^b + 1 as x", KINDS_FAULT)
        self.check("from t select a, ^(b + 1) as x", KINDS_FAULT)
        self.check("from t extend ^not a as x", KINDS_FAULT)
        self.check("from t group by a, ^null as x", KINDS_FAULT)
        self.check("from t group by ^a + b", KINDS_FAULT)
        self.check("from t order by a, ^a + b desc", KINDS_FAULT)
        self.check("from t order by ^null", KINDS_FAULT)
        self.check("from t ^where [a, a + b] in (from u)", KINDS_FAULT)
        self.check("from t ^where [null] in (from v)", KINDS_FAULT)
        self.check("from t ^window partition by a, a + b compute number() as n", KINDS_FAULT)
        self.check("from t window partition by a order by b, ^b + 1 compute number() as n", KINDS_FAULT)
        self.check("from t window compute number() as n, ^sum(a + b) as s", KINDS_FAULT)
        self.check("from t aggregate count(*) as n, ^count(null) as s", KINDS_FAULT)
        self.check("from t aggregate count(*) as n, ^count(distinct a + b) as s", KINDS_FAULT)

    def test_names_of_items(self):
        for word in ("select", "extend", "group by", "group by rollup"):
            self.check(f"from t {word} a as x, ^a + 1", "a name is expected: as")
            self.check(f"from t {word} ^1", "a name is expected: as")
            self.check(f"from t {word} ^int(a)", "a name is expected: as")
            self.check(f"from t {word} a as x, ^b as x", "the name stands twice: x")
        self.check("from t select a, ^t.a", "the name stands twice: a")
        self.check("from t group by a, ^b as a", "the name stands twice: a")
        self.check("from t extend ^a", "the name stands twice: a")
        self.check("from t extend ^1 as b", "the name stands twice: b")
        self.check("from t join u on true extend ^1 as x", "the name stands twice: x")
        self.check("from t group by a aggregate count(*) as n, ^sum(a) as a", "the name stands twice: a")
        self.check("from t aggregate count(*) as n, ^sum(a) as n", "the name stands twice: n")
        self.check("from t window compute ^number() as a", "the name stands twice: a")
        self.check("from t window compute number() as n, ^rank() as n", "the name stands twice: n")
        self.check("from t ^let a = (from v)", "the name stands twice: a")
        self.check("from t ^let a = (from u)", "one column is expected")
        self.assertIsNone(query_fault("from t select (a), (t.b), c as k"))
        self.assertIsNone(query_fault('from t select a as "A", a, b as "a b"'))

    def test_order_of_faults_of_items(self):
        self.check("from t select ^a + b, x", KINDS_FAULT)
        self.check("from t select ^x + 1", "unknown column x")
        self.check("from t select ^a + 1, x", "a name is expected: as")
        self.check("from t select a, ^b as a, x", "the name stands twice: a")
        self.check("from t aggregate ^sum(b) as n, sum(x) as n", KINDS_FAULT)
        self.check("from t group by a aggregate ^sum(b) as a", KINDS_FAULT)
        self.check("from t group by a aggregate sum(b) where ^x as a", "unknown column x")
        self.check("from t group by a aggregate ^sum(b) where a as a", CONDITION)
        self.check("from t window partition by ^x order by y compute sum(z) as a", "unknown column x")
        self.check("from t window partition by a order by ^y compute sum(z) as a", "unknown column y")
        self.check("from t window order by a compute ^sum(b) as a", KINDS_FAULT)

    def test_sets_and_grouping(self):
        self.check("from t ^group by a sets (a, k)", "unknown key k")
        self.check("from t ^group by a as x sets (a)", "unknown key a")
        self.check("from t ^group by a sets (), (k) aggregate sum(x) as s", "unknown key k")
        self.check("from t group by ^x sets (k)", "unknown column x")
        self.check("from t group by a aggregate ^grouping(a + 1) as g", "the name of a key is expected")
        self.check("from t group by a aggregate ^grouping(t.a) as g", "the name of a key is expected")
        self.check("from t group by a aggregate ^grouping(1) where x as a", "the name of a key is expected")
        self.check("from t group by a aggregate grouping(^b) as g", "unknown key b")
        self.check("from t aggregate grouping(^a) as g", "unknown key a")
        self.check("from t group by a aggregate grouping(a) where ^x as a", "unknown column x")
        self.check("from t group by a aggregate grouping(^b) where x as a", "unknown key b")
        self.check("from t group by a aggregate ^grouping(a) as a", "the name stands twice: a")
        self.assertIsNone(query_fault("from t group by a as k aggregate grouping((k)) where e as g"))

    def test_too_many_sets(self):
        fault = "there are too many sets of keys"
        sets = ", ".join(["(a)"] * 32)
        # With 32 choices the query is too large, but that is looked at last of all.
        self.check(f"from t ^group by a sets {sets}", "the query is too large")
        self.check(f"from t group by a sets {sets} aggregate sum(^x) as s", "unknown column x")
        self.assertIsNone(query_fault("from t group by a sets " + sets[:len("(a), ") * 25 - 2]))
        self.check(f"from t ^group by a sets {sets}, ()", fault)
        self.check(f"from t ^group by a sets {sets}, (), (k)", "unknown key k")
        keys = [f"a as k{number}" for number in range(32)]
        self.assertIsNone(query_fault("from t group by cube " + ", ".join(keys[:4])))
        self.check("from t group by cube " + ", ".join(keys[:5]) + " aggregate sum(^x) as s", "unknown column x")
        self.check("from t ^group by cube " + ", ".join(keys[:6]), fault)
        self.check("from t ^group by cube " + ", ".join(keys) + " aggregate sum(x) as s", fault)
        self.assertIsNone(query_fault("from t group by rollup " + ", ".join(keys[:24])))
        self.check("from t ^group by rollup " + ", ".join(keys[:31]), "the query is too large")
        self.check("from t ^group by rollup " + ", ".join(keys), fault)

    def test_kinds_of_aggregates(self):
        for name, kinds in (("sum", "ac"), ("avg", "ac"), ("every", "e"), ("some", "e"), ("list", "b"),
                            ("min", "abcde"), ("max", "abcde"), ("count", "abcde")):
            for column_name in "abcde":
                text = f"from t aggregate count(*) as n, ^{name}({column_name}) as s"
                if column_name in kinds:
                    self.assertIsNone(query_fault(text.replace("^", "")), text)
                else:
                    self.check(text, KINDS_FAULT)
        for name in ("sum", "min", "first", "last", "before", "after", "count", "max"):
            for column_name in "abcde":
                text = f"from t window compute number() as n, ^{name}({column_name}) as s"
                if name == "sum" and column_name not in "ac":
                    self.check(text, KINDS_FAULT)
                else:
                    self.assertIsNone(query_fault(text.replace("^", "")), text)

    def test_columns_that_do_not_fit(self):
        self.check("from t ^let k = (from u)", "one column is expected")
        self.check("from t ^where [a] in (from u)", COLUMNS_FAULT)
        self.check("from t ^where [a, a] in (from u)", COLUMNS_FAULT)
        self.check("from t ^where [c] not in (from v)", COLUMNS_FAULT)
        self.check("from t where [^k] in (from u)", "unknown column k")
        for word in ("union", "intersect", "except"):
            self.check(f"from t ^{word} (from u)", COLUMNS_FAULT)
            self.check(f"from u ^{word} (from u select x, a)", COLUMNS_FAULT)
            self.check(f"from v ^{word} (from t select c)", COLUMNS_FAULT)
            self.check(f"from v {word} (from ^w)", "unknown table w")

    def test_queries_between_brackets_come_first(self):
        self.check("from t where [^x] in (from v)", "unknown column x")
        self.check("from t where [x] in (from ^w)", "unknown table w")
        self.check("from t let a = (from ^w)", "unknown table w")
        self.check("from t join (from ^w) as t on x", "unknown table w")
        self.check("from t where ^x = 1 union (from w)", "unknown column x")
        self.check("from ^w where x = 1", "unknown table w")


class Sizes(unittest.TestCase):
    def check(self, text, reason):
        self.assertEqual(fault_of(bind_condition, text, CATALOG, TABLES[0][1]), None if reason is None else (0, reason))

    def sum_of(self, leaves):
        """A sum of so many leaves, as flat as it can be."""
        if leaves == 1:
            return "a"
        half = leaves // 2
        first, second = self.sum_of(leaves - half), self.sum_of(half)
        return f"{first}+{second}" if half == 1 else f"{first}+({second})"

    def test_size(self):
        text = self.sum_of(499)
        self.assertEqual(size_of(bind_value(text, "int", CATALOG, TABLES[0][1])), 997)
        self.check(text + " > 1", None)
        self.check(text + " > -1", None)
        self.check(text + " > 1 is null", None)
        self.check("not " + text + " > 1", None)
        self.check("not not " + text + " > 1", TOO_LARGE)
        self.check("not " + text + " <> 1", TOO_LARGE)
        self.check(self.sum_of(501), TOO_LARGE)
        self.check(self.sum_of(500), CONDITION)
        self.check("-" + "(" + self.sum_of(500) + ")", CONDITION)
        self.check("- -" + "(" + self.sum_of(500) + ")", TOO_LARGE)

    def test_size_of_in(self):
        self.check("a in (" + ", ".join(["1"] * 250) + ")", None)
        self.check("a in (" + ", ".join(["1"] * 251) + ")", TOO_LARGE)
        self.check("a not in (" + ", ".join(["1"] * 250) + ")", None)
        self.check("a in ('x', " + ", ".join(["1"] * 250) + ")", TOO_LARGE)
        self.check("a in ('x', " + ", ".join(["1"] * 248) + ")", KINDS_FAULT)

    def test_depth(self):
        for depth in (59, 60, 61, 62, 300, 1999):
            text = "+".join(["a"] * depth)
            reason = None if depth <= 60 else TOO_DEEP
            self.assertEqual(fault_of(bind_value, text, "int", CATALOG, TABLES[0][1]),
                             None if depth <= 60 else (0, reason))
            if depth <= 60:
                self.assertEqual(depth_of(bind_value(text, "int", CATALOG, TABLES[0][1])), depth)
        self.check("+".join(["a"] * 59) + " > 1", None)
        self.check("+".join(["a"] * 60) + " > 1", TOO_DEEP)
        self.check("+".join(["a"] * 60) + " + b", TOO_DEEP)
        self.check("+".join(["a"] * 59) + " + b", KINDS_FAULT)
        self.check("a + b" + " + a" * 100, KINDS_FAULT)
        self.check("+".join(["1"] * 59) + " > 1", None)
        self.check("+".join(["1"] * 60) + " > 1", TOO_DEEP)

    def test_faults_stand_where_those_of_kinds_do(self):
        deep = "+".join(["a"] * 61)
        self.assertEqual(query_fault(f"from t where {deep} > 1"), (7, TOO_DEEP))
        self.assertEqual(query_fault(f"from t select b, {deep} as x"), (17, TOO_DEEP))
        large = self.sum_of(501)
        self.assertEqual(query_fault(f"from t extend 1 as q, {large} as x"), (22, TOO_LARGE))
        self.assertEqual(query_fault(f"from t aggregate count({large}) as x"), (17, TOO_LARGE))

    def test_size_of_calls(self):
        """A call counts 1 more, and its operands count once more."""
        functions = ["one(x) = 1", "id_(x) = x", "both(x, y) = x + y"]
        catalog = Catalog(TABLES, functions=functions)

        def fault(text):
            return fault_of(bind_value, text, "int", catalog, TABLES[0][1])

        # one(e) counts 1 + 1 + the size of e; the expression itself is a constant.
        self.assertIsNone(fault("one(" + self.sum_of(499) + ")"))
        self.assertIsNone(fault("-one(" + self.sum_of(499) + ")"))
        self.assertEqual(fault("- -one(" + self.sum_of(499) + ")"), (0, TOO_LARGE))
        self.assertEqual(fault("one(" + self.sum_of(500) + ")"), (0, TOO_LARGE))
        # id_(e) counts twice the size of e, and 1.
        self.assertIsNone(fault("-id_(" + self.sum_of(250) + ")"))
        self.assertEqual(fault("- -id_(" + self.sum_of(250) + ")"), (0, TOO_LARGE))
        self.assertEqual(fault("id_(" + self.sum_of(251) + ")"), (0, TOO_LARGE))
        # both(e, f) counts twice their sizes, 1 for the sum and 1 for the call.
        self.assertIsNone(fault("both(" + self.sum_of(125) + ", " + self.sum_of(125) + ")"))
        self.assertEqual(fault("both(" + self.sum_of(126) + ", " + self.sum_of(125) + ")"), (0, TOO_LARGE))

    def test_the_body_of_a_function_is_one_part_with_its_call(self):
        """What a call stands for is looked at as a whole, behind its operands."""
        functions = ["one(x) = 1", "drop(x) = one(x + 'a')", "keep(x) = x + 'a'", "deep(x) = one(" + "-(" * 18 + "x" + ")" * 18 + ")",
                     "deeper(x) = deep(deep(" + "+".join(["x"] * 58) + "))"]
        catalog = Catalog(TABLES, functions=functions)

        def fault(text):
            return fault_of(bind_value, text, "int", catalog, TABLES[0][1])

        self.assertIsNone(fault("drop(a)"))
        self.assertEqual(bind_value("drop(a)", "int", catalog, TABLES[0][1]), constant(1))
        self.assertEqual(fault("keep(a)"), (0, KINDS_FAULT))
        self.assertEqual(fault("drop(a + 'a')"), (0, KINDS_FAULT))
        self.assertIsNone(fault("deeper(a)"))

    def test_functions_that_grow(self):
        functions = ["f0(x) = x + x"] + [f"f{k}(x) = f{k - 1}(f{k - 1}(x))" for k in range(1, 8)]
        catalog = Catalog(TABLES, functions=functions)
        self.assertIsNone(fault_of(bind_value, "f1(a)", "int", catalog, TABLES[0][1]))
        self.assertEqual(fault_of(bind_value, "f7(a)", "int", catalog, TABLES[0][1]), (0, TOO_LARGE))
        functions = ["g0(x) = " + "-(" * 19 + "x" + ")" * 19]
        functions += [f"g{k}(x) = " + "-(" * 18 + f"g{k - 1}(x)" + ")" * 18 for k in range(1, 8)]
        catalog = Catalog(TABLES, functions=functions)
        self.assertIsNone(fault_of(bind_value, "g2(a)", "int", catalog, TABLES[0][1]))
        self.assertEqual(fault_of(bind_value, "g7(a)", "int", catalog, TABLES[0][1]), (0, TOO_DEEP))

    def test_operations(self):
        fault = "the query is too large"
        for steps in (98, 99, 100):
            text = "from t" + " distinct" * steps
            offset = len(text) - len("distinct")
            self.assertEqual(query_fault(text), None if steps <= 99 else (offset, fault))
        text = "from t" + " distinct" * 99
        self.assertEqual(query_fault(text + " limit 1"), (len(text) + 1, fault))
        self.assertEqual(query_fault(text + " order by a"), (len(text) + 1, fault))
        self.assertIsNone(query_fault("from t" + " distinct" * 98 + " limit 1"))
        self.assertEqual(query_fault(text + " limit 1 distinct"), (len(text) + 1, fault))
        self.assertEqual(query_fault("from t" + " distinct" * 100 + " where x"), (len(text) + 1, fault))
        self.assertEqual(query_fault(text + " where x"), (len(text) + 7, "unknown column x"))

    def test_operations_of_each_step(self):
        """Each step counts as many operations as its plan has."""
        fault = "the query is too large"

        def operations(plan):
            inner = [part for part in plan[1:] if isinstance(part, tuple) and part and part[0] in OPERATORS]
            return 1 + sum(operations(part) for part in inner)

        for step in ("where e", "select a", "extend 1 as x", "distinct", "limit 1", "window compute number() as n",
                     "join u on true", "left join u on true", "full join (from u distinct) as s on true", "cross join v",
                     "where exists u on true", "where [a] not in (from v)", "let k = (from v)", "let k = (from v limit 2)",
                     "union (from t limit 3)", "intersect (from t)", "except (from t distinct)", "group by a",
                     "group by a aggregate grouping(a) as g", "group by cube a, b", "group by a sets (a), (), ()",
                     "aggregate count(*) as n"):
            many = operations(plan_of(f"from t {step} distinct")) - 2
            for front in range(0, 100):
                text = "from t" + " distinct" * front + f" {step}"
                whole = operations(plan_of(f"from t{' distinct' * min(front, 20)} {step} distinct")) - 1
                if front > 20:
                    whole += (front - 20) * (whole - (operations(plan_of(f"from t{' distinct' * 19} {step} distinct")) - 1))
                self.assertEqual(query_fault(text), None if whole <= 100 else (7 + 9 * front, fault), (step, front, many))

    def test_operations_of_sources(self):
        catalog = Catalog(TABLES, queries=[("q", "from t" + " distinct" * 99), ("r", "from t" + " distinct" * 100),
                                           ("s", "from t" + " distinct" * 98 + " limit 1"),
                                           ("w", "from t" + " distinct" * 99 + " limit 1")])
        self.assertIsNone(query_fault("from q", catalog))
        self.assertIsNone(query_fault("from s", catalog))
        self.assertEqual(query_fault("from q distinct", catalog), (7, "the query is too large"))
        self.assertEqual(query_fault("from s distinct", catalog), (7, "the query is too large"))
        self.assertEqual(query_fault("from r", catalog), (5, "this query cannot be used: r"))
        self.assertEqual(query_fault("from w", catalog), (5, "this query cannot be used: w"))
        self.assertEqual(query_fault("with x as (from q distinct) from t", catalog), (18, "the query is too large"))
        self.assertEqual(query_fault("from q union (from t)", catalog), (7, "the query is too large"))

    def test_columns(self):
        fault = "there are too many columns"
        names = ", ".join(f"1 as k{number}" for number in range(60))
        self.assertIsNone(query_fault(f"from t select {names}"))
        self.assertEqual(query_fault(f"from t select {names}, 2 as x"), (7, fault))
        self.assertIsNone(query_fault("from v extend " + names.replace("1 as k0, ", "")))
        self.assertEqual(query_fault(f"from v extend {names}"), (7, fault))
        self.assertIsNone(query_fault(f"from t select {names} distinct"))
        text = f"from t select {names} cross join v"
        self.assertEqual(query_fault(text), (text.index("cross"), fault))
        text = f"from t select {names} where exists v on true"
        self.assertIsNone(query_fault(text))
        text = f"from t select {names} let y = (from v)"
        self.assertEqual(query_fault(text), (text.index("let"), fault))
        text = f"from t select {names} window compute number() as y"
        self.assertEqual(query_fault(text), (text.index("window"), fault))
        many = Catalog([("m", [(f"c{number}", "int", False) for number in range(61)])])
        self.assertEqual(query_fault("  from m select c0", many), (2, fault))
        both = "from t" + " distinct" * 99 + f" select {names}, 2 as x"
        self.assertEqual(query_fault(both), (both.index("select"), "the query is too large"))


OPERATORS = ("table", "filter", "project", "join", "group", "distinct", "union", "window", "top")


class Columns(unittest.TestCase):
    """Names, kinds and nullability of the columns that each step leaves."""

    def check(self, text, names, kinds, nullable, catalog=CATALOG):
        query = bind_query(text, catalog)
        self.assertEqual(query.names, names, text)
        self.assertEqual(query.kinds, kinds.split(), text)
        self.assertEqual(self.nullable_of(text, catalog), nullable, text)

    def nullable_of(self, text, catalog=CATALOG):
        """Return N for each column that is nullable, - for the others."""
        return "".join("N" if column.kind[1] else "-" for column in relation_of(text, catalog).columns)

    def test_sources_and_plain_steps(self):
        names, kinds, nullable = list("abcde"), "int text decimal date bool", "-N-N-"
        for step in ("", "where e", "distinct", "order by a", "limit 5", "offset 1 distinct", "where exists u on true",
                     "where not exists u on true", "where [a] in (from v)", "where [a] not in (from v)",
                     "intersect (from t)", "except (from t)", "union (from t)"):
            self.check(f"from t {step}", names, kinds, nullable)
        self.check("from (from t) as s", names, kinds, nullable)
        self.check("with x as (from t) from x", names, kinds, nullable)
        self.check("from t select b, a + 1 as x, a, e as y", ["b", "x", "a", "y"], "text int int bool", "NN--")
        self.check("from t extend b as x, a as y", names + ["x", "y"], kinds + " text int", nullable + "N-")

    def test_joins(self):
        kinds = "int text decimal date bool int text"
        names = ["t.a", "b", "c", "d", "e", "u.a", "x"]
        self.check("from t join u on true", names, kinds, "-N-N-N-")
        self.check("from t cross join u", names, kinds, "-N-N-N-")
        self.check("from t left join u on true", names, kinds, "-N-N-NN")
        self.check("from t full join u on true", names, kinds, "NNNNNNN")
        self.check("from t as k join u as l on k.a = l.a", ["k.a"] + names[1:5] + ["l.a", "x"], kinds, "-N-N-N-")

    def test_names_of_answers(self):
        self.check("from v cross join v as w", ["v.n", "w.n"], "int int", "--")
        self.check("from (from v cross join v as w) as k", ["k.n", "k.n"], "int int", "--")
        self.check("from v select n cross join v", ["n", "v.n"], "int int", "--")
        self.check("from v let x = (from v)", ["n", "x"], "int int", "-N")
        self.check("from v select n as m cross join v", ["m", "n"], "int int", "--")

    def test_groups(self):
        self.check("from t group by a, b", ["a", "b"], "int text", "-N")
        self.check("from t group by rollup a, b", ["a", "b"], "int text", "NN")
        self.check("from t group by cube a", ["a"], "int", "N")
        self.check("from t group by a sets (a)", ["a"], "int", "N")
        self.check("from t group by a aggregate grouping(a) as g", ["a", "g"], "int int", "--")
        self.check("from t group by a + 1 as k aggregate count(*) as n, count(b) as o, count(distinct b) as p, sum(a) as q, "
                   "sum(c) as r, min(d) as s, max(e) as u, avg(a) as v, avg(c) as w, every(e) as x, some(e) as y, list(b) as z",
                   list("knopqrsuvwxyz"),
                   "int int int int int decimal date bool decimal decimal bool bool text", "N---NNNNNNNNN")
        self.check("from t aggregate count(*) where e as n", ["n"], "int", "-")

    def test_windows(self):
        self.check("from v window order by n compute number() as a, rank() as b, dense() as c, tile(2) as d, count(n) as e, "
                   "sum(n) as f, min(n) as g, max(n) as h, first(n) as i, last(n) as j, before(n) as k, after(n) as l",
                   list("nabcdefghijkl"), "int " * 13, "----N-NNNNNNN")
        self.check("from t window compute first(b) as k, sum(c) as l, before(d) as m, after(e) as n",
                   list("abcdeklmn"), "int text decimal date bool text decimal date bool", "-N-N-NNNN")

        self.check("from t window compute last(b) as k, first(c) as l, after(d) as m, before(e) as n, max(b) as o, min(d) as p",
                   list("abcdeklmnop"), "int text decimal date bool text decimal date bool text date", "-N-N-NNNNNN")

    def test_unions(self):
        self.check("from u union (from t select a as k, b as l)", ["a", "x"], "int text", "NN")
        self.check("from t select a, b union (from u)", ["a", "b"], "int text", "NN")
        self.check("from v union (from t select a)", ["n"], "int", "-")
        self.check("from u intersect (from t select a, b)", ["a", "x"], "int text", "N-")
        self.check("from t join u on true union (from t join u on true)", ["t.a", "b", "c", "d", "e", "u.a", "x"],
                   "int text decimal date bool int text", "-N-N-N-")

    def test_which_table_a_column_belongs_to(self):
        for text in ("from t where e where t.a = 1", "from t distinct where t.a = 1", "from t limit 1 where t.a = 1",
                     "from t extend 1 as x where t.a = x", "from t window compute number() as n where t.a = n",
                     "from t let k = (from v) where t.a = k", "from t union (from t) where t.a = 1",
                     "from t except (from t) where t.a = 1", "from t where [a] in (from v) where t.a = 1",
                     "from t join u on true where u.a = t.a", "from t full join u on true where u.a = t.a"):
            self.assertIsNone(query_fault(text), text)
        for text in ("from t select a where ^t.a = 1", "from t group by a where ^t.a = 1",
                     "from t extend 1 as x where ^t.x = 1", "from t window compute number() as x where ^t.x = 1",
                     "from t let x = (from v) where ^v.x = 1", "from (from t) as s where ^t.a = 1"):
            text, offset = place_of(text)
            self.assertEqual(query_fault(text)[0], offset, text)
            self.assertIn("unknown column", query_fault(text)[1])

    def test_kinds_agree_with_the_plan(self):
        columns = [(kind, nullable) for _, kind, nullable in TABLES[0][1]]
        text = "from t select -a as p, c * a as q, d + a as r, b || b as s, a > 1 as u, coalesce(b, 'x') as v, 'x' as w"
        query = bind_query(text, CATALOG)
        told = [kind_of(expression, columns) for expression in query.plan[1]]
        self.assertEqual([kind for kind, _ in told], query.kinds)
        self.assertEqual("".join("N" if null else "-" for _, null in told), self.nullable_of(text))
        self.assertEqual(set(query.kinds) <= set(KINDS), True)


class ConditionsAndValues(unittest.TestCase):
    COLUMNS = [("a", "int", True), ("b", "text", False), ("c", "decimal", True), ("e", "bool", True)]

    def condition_fault(self, text, catalog=CATALOG):
        return fault_of(bind_condition, text, catalog, self.COLUMNS)

    def test_conditions(self):
        self.assertEqual(bind_condition("a = 1 and e", CATALOG, self.COLUMNS),
                         binary("and", binary("equal", column(0), constant(1)), column(3)))
        self.assertEqual(bind_condition("e", CATALOG, self.COLUMNS), column(3))
        catalog = Catalog([], functions=["f(x) = x = 1"], parameters=[True])
        self.assertEqual(bind_condition("f(a) and $1", catalog, self.COLUMNS),
                         binary("and", binary("equal", column(0), constant(1)), constant(True)))
        self.assertEqual(self.condition_fault("a = 1 b"), (6, "the end is expected"))
        self.assertEqual(self.condition_fault("a = 1 limit 1"), (6, "the end is expected"))
        self.assertEqual(self.condition_fault(""), (0, "an expression is expected"))
        self.assertEqual(self.condition_fault("  a"), (0, CONDITION))
        self.assertEqual(self.condition_fault("null"), (0, KINDS_FAULT))
        self.assertEqual(self.condition_fault("  a = 'x'"), (0, KINDS_FAULT))
        self.assertEqual(self.condition_fault("  k = 'x'"), (2, "unknown column k"))
        self.assertEqual(self.condition_fault("t.a = 1"), (0, "unknown column a"))
        self.assertEqual(self.condition_fault("e and t.a = 1"), (6, "unknown column a"))
        self.assertEqual(self.condition_fault("a = $1"), (4, "a parameter is not given"))
        self.assertEqual(self.condition_fault("a = f(a)"), (4, "unknown function f"))
        self.assertEqual(self.condition_fault("'x"), (0, "the text is not closed"))
        self.assertEqual(self.condition_fault("x" * 4001), (4000, "the text is too long"))

    def test_values(self):
        told = [("a + 1", "int", binary("add", column(0), constant(1))), ("a", "decimal", unary("to decimal", column(0))),
                ("c", "decimal", column(2)), ("null", "date", constant(None)), ("null", "decimal", constant(None)),
                ("5", "decimal", unary("to decimal", constant(5))), ("b", "text", column(1)), ("e", "bool", column(3)),
                ("1.5", "decimal", unary("as decimal", constant(15000))),
                ("date '1970-01-01'", "date", unary("as date", constant(0)))]
        for text, kind, wanted in told:
            self.assertEqual(bind_value(text, kind, CATALOG, self.COLUMNS), wanted, text)
        for kind in KINDS:
            self.assertEqual(bind_value("(null)", kind, CATALOG, self.COLUMNS), constant(None))

    def test_value_faults(self):
        def fault(text, kind):
            return fault_of(bind_value, text, kind, CATALOG, self.COLUMNS)

        for text, kind in (("c", "int"), ("b", "int"), ("a", "text"), ("a", "bool"), ("a", "date"), ("1.0", "int"),
                           ("'x'", "date"), (" a + b", "int"), ("not null", "bool"), ("e", "decimal"), ("1", "bool")):
            self.assertEqual(fault(text, kind), (0, KINDS_FAULT), (text, kind))
        self.assertEqual(fault("1 2", "int"), (2, "the end is expected"))
        self.assertEqual(fault(" k", "int"), (1, "unknown column k"))
        self.assertEqual(fault(" k", "text"), (1, "unknown column k"))
        self.assertEqual(fault("date 'x'", "int"), (0, "invalid date"))
        self.assertEqual(fault("+".join(["a"] * 61), "text"), (0, TOO_DEEP))


class Catalogs(unittest.TestCase):
    def test_fields_are_lists_of_their_own(self):
        tables = [("t", [("a", "int", False)])]
        queries, functions, parameters = [("q", "from t")], ["f(x) = x"], [1, None]
        catalog = Catalog(tables, queries=queries, functions=functions, parameters=parameters)
        tables[0][1].append(("b", "text", True))
        tables.append(("u", []))
        queries.clear()
        functions.clear()
        parameters.append(2)
        self.assertEqual(catalog.tables, [("t", [("a", "int", False)])])
        self.assertEqual(catalog.parameters, [1, None])
        self.assertEqual(bind_query("from q select f(a) as k", catalog).plan, ("project", (column(0),), ("table", 0)))
        other = catalog.with_queries([])
        self.assertEqual(query_fault("from q", other), (5, "unknown table q"))
        self.assertEqual((other.tables, other.parameters), (catalog.tables, catalog.parameters))
        self.assertEqual(bind_query("from t select f(a) as k", other).plan, ("project", (column(0),), ("table", 0)))
        self.assertIsNone(query_fault("from q", catalog))
        self.assertIsInstance(catalog.tables, list)
        self.assertIsInstance(catalog.parameters, list)
        self.assertEqual(Catalog([]).parameters, [])


if __name__ == "__main__":
    unittest.main()
