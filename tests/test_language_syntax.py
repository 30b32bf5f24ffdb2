"""Points 33 to 42: the syntax of expressions and queries, and its faults."""

import unittest

from stylobate.language.printing import format_query
from stylobate.language.values_of import bind_condition, bind_value
from tests.queries import CATALOG, TABLES, fault_of, function_fault, place_of, plan_of, syntax_fault
from tests.samples import binary, column, constant, unary

COLUMNS = [("p", "int", False), ("q", "int", False), ("r", "int", False), ("b", "bool", False), ("c", "bool", False),
           ("d", "bool", False), ("s", "text", False)]
P, Q, R, B, C, D, S = [column(k) for k in range(7)]

EXPRESSION = "an expression is expected"
NAME = "a name is expected"
NUMBER = "a number is expected"


def value(text, kind="int"):
    return bind_value(text, kind, CATALOG, COLUMNS)


def condition(text):
    return bind_condition(text, CATALOG, COLUMNS)


class Precedence(unittest.TestCase):
    def test_levels(self):
        add, subtract, multiply = [lambda x, y, n=n: binary(n, x, y) for n in ("add", "subtract", "multiply")]
        self.assertEqual(value("p + q * r"), add(P, multiply(Q, R)))
        self.assertEqual(value("p * q + r"), add(multiply(P, Q), R))
        self.assertEqual(value("p - q - r"), subtract(subtract(P, Q), R))
        self.assertEqual(value("p - q + r"), add(subtract(P, Q), R))
        self.assertEqual(value("p - (q + r)"), subtract(P, add(Q, R)))
        self.assertEqual(value("p * q / r mod p"),
                         binary("rest", binary("divide", multiply(P, Q), R), P))
        self.assertEqual(value("-p * -q"), multiply(unary("negate", P), unary("negate", Q)))
        self.assertEqual(value("- - p"), unary("negate", unary("negate", P)))
        self.assertEqual(value("p - -q"), subtract(P, unary("negate", Q)))
        self.assertEqual(value("-(p + q)"), unary("negate", add(P, Q)))
        self.assertEqual(value("s || s || s", "text"), binary("join", binary("join", S, S), S))

    def test_logic(self):
        self.assertEqual(condition("b or c and d"), binary("or", B, binary("and", C, D)))
        self.assertEqual(condition("b and c or d"), binary("or", binary("and", B, C), D))
        self.assertEqual(condition("b or c or d"), binary("or", binary("or", B, C), D))
        self.assertEqual(condition("b and c and d"), binary("and", binary("and", B, C), D))
        self.assertEqual(condition("not b and c"), binary("and", unary("not", B), C))
        self.assertEqual(condition("b and not c or d"), binary("or", binary("and", B, unary("not", C)), D))
        self.assertEqual(condition("not b = c"), unary("not", binary("equal", B, C)))
        self.assertEqual(condition("not not b"), unary("not", unary("not", B)))
        self.assertEqual(condition("(not b) = c"), binary("equal", unary("not", B), C))

    def test_comparisons(self):
        self.assertEqual(condition("p + q < r"), binary("less", binary("add", P, Q), R))
        self.assertEqual(condition("p < q = b"), binary("equal", binary("less", P, Q), B))
        self.assertEqual(condition("p = q is null"), unary("is null", binary("equal", P, Q)))
        self.assertEqual(condition("p is null = b"), binary("equal", unary("is null", P), B))
        self.assertEqual(condition("p is null is not null"), unary("not", unary("is null", unary("is null", P))))
        self.assertEqual(condition("p between q and r and b"),
                         binary("and", binary("and", binary("at most", Q, P), binary("at most", P, R)), B))
        self.assertEqual(condition("p between q + 1 and r * 2 = c"),
                         binary("equal", binary("and", binary("at most", binary("add", Q, constant(1)), P),
                                                binary("at most", P, binary("multiply", R, constant(2)))), C))
        self.assertEqual(condition("s like s || s = c"), binary("equal", binary("like", S, binary("join", S, S)), C))
        self.assertEqual(condition("p in (1) in (true)"),
                         binary("equal", binary("equal", P, constant(1)), constant(True)))
        self.assertEqual(condition("not p not in (1)"), unary("not", unary("not", binary("equal", P, constant(1)))))

    def test_every_comparison_is_looser_than_a_sum(self):
        less, at_most, equal = [lambda x, y, n=n: binary(n, x, y) for n in ("less", "at most", "equal")]
        more = binary("add", P, constant(1))
        told = {"=": equal(Q, more), "<>": unary("not", equal(Q, more)), "!=": unary("not", equal(Q, more)),
                "<": less(Q, more), "<=": at_most(Q, more), ">": less(more, Q), ">=": at_most(more, Q)}
        for sign, wanted in told.items():
            self.assertEqual(condition(f"q {sign} p + 1"), wanted)
            self.assertEqual(condition(f"q {sign} p + 1 = b"), equal(wanted, B))
            self.assertEqual(condition(f"q {sign} p + 1 and b"), binary("and", wanted, B))
        self.assertEqual(value("p - q * r"), binary("subtract", P, binary("multiply", Q, R)))

    def test_literals(self):
        told = {"5": constant(5), "-5": constant(-5), "- 5": constant(-5), "007": constant(7),
                "- - 5": unary("negate", constant(-5)), "-(5)": unary("negate", constant(5)),
                "p-5": binary("subtract", P, constant(5)), "p - -5": binary("subtract", P, constant(-5)),
                "p*-5": binary("multiply", P, constant(-5)), "-0": constant(0)}
        for text, wanted in told.items():
            self.assertEqual(value(text), wanted, text)
        self.assertEqual(value("-2.5", "decimal"), unary("as decimal", constant(-25000)))
        self.assertEqual(value("'it''s'", "text"), constant("it's"))
        self.assertEqual(value("TRUE", "bool"), constant(True))
        self.assertEqual(value("False", "bool"), constant(False))
        self.assertEqual(value("Null", "bool"), constant(None))
        self.assertEqual(value("Date '1970-01-03'", "date"), unary("as date", constant(2)))


class ExpressionFaults(unittest.TestCase):
    def check(self, marked, reason):
        text, offset = place_of("from t where " + marked)
        self.assertEqual(syntax_fault(text), (offset, reason), marked)
        text, offset = place_of(marked)
        wanted = "the end is expected" if reason == "a step is expected" else reason
        self.assertEqual(fault_of(bind_condition, text, CATALOG, TABLES[0][1]), (offset, wanted), marked)

    def test_an_expression(self):
        for marked in ("^", "a + ^", "a + ^)", "(^)", "(^", "a and ^", "not ^", "- ^", "a = ^not b", "a + ^not b",
                       "a * ^not b", "- ^not b", "a like ^not b", "a between ^not b and c", "a between b and ^not c",
                       "^and a", "^= a", "lower(^)", "lower(a, ^)", "lower(a, b, ^)", "a + ^exists", "^left(a)", "a = ^= b",
                       "case when ^then", "case when a then ^", "case when a then b else ^end", "^* a", "a + ^, b",
                       "^in (1)", "^.a", "^mod a", "a + ^[a]", "a between 1 and ^", "a = ^= a", "^as", "^select"):
            self.check(marked, EXPRESSION)

    def test_words_and_signs(self):
        self.check("(a^", ") is expected")
        self.check("(a ^b)", ") is expected")
        self.check("(a^, b)", ") is expected")
        self.check("lower(a^", ") is expected")
        self.check("lower(a ^b)", ") is expected")
        self.check("f(a, b, c^, d)", ") is expected")
        self.check("case ^a", "when is expected")
        self.check("case ^", "when is expected")
        self.check("case when a ^b", "then is expected")
        self.check("case when a then b ^c", "else is expected")
        self.check("case when a then b else c ^", "end is expected")
        self.check("case when a then b ^end", "else is expected")
        self.check("case when a then b else c ^when", "end is expected")
        self.check("a is ^b", "null is expected")
        self.check("a is not ^b", "null is expected")
        self.check("a is not ^not null", "null is expected")
        self.check("a is ^", "null is expected")
        self.check("a between b ^or c", "and is expected")
        self.check("a between b ^", "and is expected")
        self.check("a in ^1", "( is expected")
        self.check("a not in ^from", "( is expected")
        self.check("a in (1 ^2)", ") is expected")
        self.check("a in (1^", ") is expected")

    def test_literals(self):
        for marked in ("a in (^)", "a in (^a)", "a in (1, ^", "a in (1, ^b)", "a in (^(1))", "a in (^- a)",
                       "a in (^- - 1)", "a in (^-)", "a in (^date)", "a in (^date x)", "a in (^$1)", "a in (^not true)",
                       "a in (^+ 1)", "a in (^lower('a'))", "a in (^from t)"):
            self.check(marked, "a literal is expected")
        for text in ("a in (1)", "a in (-1, - 2.5, 'x', true, FALSE, null, date 'x', Date 'y')"):
            self.assertIsNone(syntax_fault("from t where " + text))

    def test_names(self):
        self.check("t.^", NAME)
        self.check("t.^1", NAME)
        self.check("t.^select", NAME)
        self.check("t.^*", NAME)
        self.assertIsNone(syntax_fault('from t where t."select" = first and last = rows and "t".before = after.date'))

    def test_where_an_expression_ends(self):
        for marked in ("a ^b", "a ^not b", "a ^not", "a ^not null", "a is null ^+ 1", "a in (1) ^* 2", "a ^)", "a^, b",
                       "a = b ^not a", "t.a^.b", "a ^1", "a ^'x'", "(a) ^(b)", "1 ^1", "a ^case", "a ^null", "1^.x",
                       "not a is null ^- 1", "a is null ^|| 'y'"):
            self.check(marked, "a step is expected")

    def test_not_belongs_only_before_like_between_in(self):
        for text in ("a not like b", "a not between b and c", "a not in (1)", "a NOT LIKE b"):
            self.assertIsNone(syntax_fault("from t where " + text))


class QueryFaults(unittest.TestCase):
    def check(self, marked, reason):
        text, offset = place_of(marked)
        self.assertEqual(syntax_fault(text), (offset, reason), marked)

    def test_beginning(self):
        for marked in ("^", "  ^select a", "   ^", "^(from t)", "^t", "with x as (from t) ^select", "^1", '^"from" t'):
            self.check(marked, "from is expected")
        self.check("-- nothing^", "from is expected")
        self.check("with x as (^select a)", "from is expected")
        self.check("with x as (^)", "from is expected")
        self.check("with ^(from t)", NAME)
        self.check("with ^as (from t)", NAME)
        self.check("with x ^(from t)", "as is expected")
        self.check("with x as ^from t", "( is expected")
        self.check("with x as (from t^", ") is expected")
        self.check("with x as (from t ^y) from x", ") is expected")
        self.assertIsNone(syntax_fault("with x as (with y as (from t) from y) with z as (from x) from z"))

    def test_sources(self):
        self.check("from ^", NAME)
        self.check("from ^where a", NAME)
        self.check("from ^1", NAME)
        self.check("from ^[", NAME)
        self.check("from t as ^", NAME)
        self.check("from t as ^(", NAME)
        self.check("from (^t) as x", "from is expected")
        self.check("from (from t^", ") is expected")
        self.check("from (from t) ^", "as is expected")
        self.check("from (from t) ^x", "as is expected")
        self.check("from (from t) as ^1", NAME)
        self.check("from t ^x", "a step is expected")
        self.check("from t^, u", "a step is expected")
        self.check("from t^.x", "a step is expected")

    def test_joins(self):
        self.check("from t join ^", NAME)
        self.check("from t join u ^", "on is expected")
        self.check("from t join u ^where", "on is expected")
        self.check("from t join u on ^", EXPRESSION)
        self.check("from t left ^outer join u", "join is expected")
        self.check("from t full ^", "join is expected")
        self.check("from t cross ^u", "join is expected")
        self.check("from t cross join u ^on true", "a step is expected")
        self.check("from t join (from u) ^on true", "as is expected")

    def test_where(self):
        self.check("from t where exists ^", NAME)
        self.check("from t where exists u ^", "on is expected")
        self.check("from t where not exists u on ^", EXPRESSION)
        self.check("from t where not not ^exists u on true", EXPRESSION)
        self.check("from t where [^] in (from u)", EXPRESSION)
        self.check("from t where [a ^from", "] is expected")
        self.check("from t where [a in (^from u)", "a literal is expected")
        self.check("from t where [a^", "] is expected")
        self.check("from t where [a, b^)", "] is expected")
        self.check("from t where [a, ^]", EXPRESSION)
        self.check("from t where [a] ^(from u)", "in is expected")
        self.check("from t where [a] ^= 1", "in is expected")
        self.check("from t where [a] not ^like", "in is expected")
        self.check("from t where [a] not ^", "in is expected")
        self.check("from t where [a] in ^", "( is expected")
        self.check("from t where [a] in (^1)", "from is expected")
        self.check("from t where [a] in (from u^", ") is expected")

    def test_let_and_sets(self):
        self.check("from t let ^", NAME)
        self.check("from t let x ^(from u)", "= is expected")
        self.check("from t let x = ^1", "( is expected")
        self.check("from t let x = (^1)", "from is expected")
        for word in ("union", "intersect", "except"):
            self.check(f"from t {word} ^from u", "( is expected")
            self.check(f"from t {word} ^", "( is expected")
            self.check(f"from t {word} (from u^", ") is expected")
            self.check(f"from t {word} (from u ^,)", ") is expected")
        self.check("from t distinct ^a", "a step is expected")

    def test_items(self):
        for word in ("select", "extend", "group by", "group by rollup", "group by cube", "order by"):
            self.check(f"from t {word} ^", EXPRESSION)
            self.check(f"from t {word} a, ^", EXPRESSION)
        for word in ("select", "extend", "group by"):
            self.check(f"from t {word} a as ^", NAME)
            self.check(f"from t {word} a as ^1", NAME)
            self.check(f"from t {word} a as ^select b", NAME)
            self.check(f"from t {word} a ^b", "a step is expected")
        self.check("from t select ^*", EXPRESSION)

    def test_groups(self):
        self.check("from t group ^a", "by is expected")
        self.check("from t group by rollup ^cube a", EXPRESSION)
        self.check("from t group by a sets ^a", "( is expected")
        self.check("from t group by a sets ^", "( is expected")
        self.check("from t group by a sets (^1)", NAME)
        self.check("from t group by a sets (^", NAME)
        self.check("from t group by a sets (^,)", NAME)
        self.check("from t group by a sets (a, ^)", NAME)
        self.check("from t group by a sets (a ^b)", ") is expected")
        self.check("from t group by a sets (a^.b)", ") is expected")
        self.check("from t group by a sets (a), ^", "( is expected")
        self.check("from t group by rollup a ^sets (a)", "a step is expected")
        self.check("from t group by a as k ^sum", "a step is expected")

    def test_aggregates(self):
        for front in ("from t aggregate ", "from t group by a aggregate ", "from t aggregate count(*) as n, "):
            for word in ("^", "^a", "^first(a) as f", "^1", "^number() as n", '^"count"(*) as n', "^Sum(a) as s"):
                self.check(front + word, "an aggregate is expected")
        self.check("from t aggregate count ^as n", "( is expected")
        self.check("from t aggregate sum(^) as n", EXPRESSION)
        self.check("from t aggregate sum(^*) as n", EXPRESSION)
        self.check("from t aggregate sum(^distinct a) as n", EXPRESSION)
        self.check("from t aggregate count(^) as n", EXPRESSION)
        self.check("from t aggregate count(distinct ^*) as n", EXPRESSION)
        self.check("from t aggregate count(* ^a) as n", ") is expected")
        self.check("from t aggregate sum(a^, b) as n", ") is expected")
        self.check("from t aggregate sum(a) ^", "as is expected")
        self.check("from t aggregate sum(a) ^n", "as is expected")
        self.check("from t aggregate sum(a)^, sum(b)", "as is expected")
        self.check("from t aggregate sum(a) where ^as n", EXPRESSION)
        self.check("from t aggregate sum(a) where b ^", "as is expected")
        self.check("from t aggregate sum(a) where b ^where c as n", "as is expected")
        self.check("from t aggregate sum(a) as ^", NAME)
        self.check("from t aggregate sum(a) as n ^m", "a step is expected")

    def test_windows(self):
        self.check("from t window ^", "compute is expected")
        self.check("from t window ^number() as n", "compute is expected")
        self.check("from t window partition ^a", "by is expected")
        self.check("from t window partition by ^", EXPRESSION)
        self.check("from t window partition by a ^", "compute is expected")
        self.check("from t window partition by a ^b", "compute is expected")
        self.check("from t window order ^a", "by is expected")
        self.check("from t window order by a ^", "compute is expected")
        self.check("from t window order by a desc ^asc", "compute is expected")
        self.check("from t window order by a ^partition by b", "compute is expected")
        front = "from t window compute "
        for word in ("^", "^a", "^count_(a) as n", "^avg(a) as n", "^1", '^"rank"() as n', "^Rank() as n", "^list(a) as l"):
            self.check(front + word, "a window function is expected")
        self.check(front + "number ^as n", "( is expected")
        self.check(front + "number(^1) as n", ") is expected")
        self.check(front + "tile(^) as n", NUMBER)
        self.check(front + "tile(^a) as n", NUMBER)
        self.check(front + "tile(^-1) as n", NUMBER)
        self.check(front + "tile(^1.5) as n", NUMBER)
        self.check(front + "tile(1^, 2) as n", ") is expected")
        self.check(front + "sum(^) as n", EXPRESSION)
        self.check(front + "count(^*) as n", EXPRESSION)
        self.check(front + "sum(a^, 1) as n", ") is expected")
        self.check(front + "before(a, ^) as n", NUMBER)
        self.check(front + "before(a, ^b) as n", NUMBER)
        self.check(front + "before(a ^b) as n", ") is expected")
        self.check(front + "after(a, 1^, 2) as n", ") is expected")
        self.check(front + "sum(a) ^", "as is expected")
        self.check(front + "sum(a) ^where e as n", "as is expected")
        self.check(front + "number() ^rows 1 before and 1 after as n", "as is expected")
        self.check(front + "before(a) ^rows 1 before and 1 after as n", "as is expected")
        self.check(front + "sum(a) rows ^before", NUMBER)
        self.check(front + "sum(a) rows 1 ^and", "before is expected")
        self.check(front + "sum(a) rows 1 ^after", "before is expected")
        self.check(front + "sum(a) rows 1 before ^1", "and is expected")
        self.check(front + "sum(a) rows 1 before and ^after", NUMBER)
        self.check(front + "sum(a) rows 1 before and 1 ^before", "after is expected")
        self.check(front + "sum(a) rows 1 before and 1 after ^n", "as is expected")
        self.check(front + "sum(a) as n, ^", "a window function is expected")

    def test_orders(self):
        self.check("from t order ^a", "by is expected")
        self.check("from t order by a nulls ^", "last is expected")
        self.check("from t order by a nulls ^asc", "last is expected")
        self.check("from t order by a asc ^desc", "a step is expected")
        self.check("from t order by a nulls first ^desc", "a step is expected")
        self.check("from t limit ^", NUMBER)
        self.check("from t limit ^a", NUMBER)
        self.check("from t limit ^-1", NUMBER)
        self.check("from t limit ^1.5", NUMBER)
        self.check("from t limit ^$1", NUMBER)
        self.check("from t offset ^", NUMBER)
        self.check("from t offset ^'1'", NUMBER)
        self.check("from t offset ^0", "offset must be at least 1")
        self.check("from t order by a limit 0 offset ^000", "offset must be at least 1")
        self.check("from t limit 1 ^2", "a step is expected")
        self.assertIsNone(syntax_fault("from t limit 0"))

    def test_behind_the_last_step(self):
        for marked in ("from t ^)", "from t ^from u", "from t ^]", "from t distinct ^'x'",
                       "from t where a ^on b", "from t limit 1 ^by", "from t ^with x as (from u)", "from t ^desc"):
            self.check(marked, "a step is expected")
        self.check("from (from t ^1) as x", ") is expected")
        self.check("from (from t limit 1 ^2) as x", ") is expected")


class Functions(unittest.TestCase):
    def check(self, marked, reason):
        text, offset = place_of(marked)
        self.assertEqual(function_fault(text), (offset, reason), marked)

    def test_faults(self):
        self.check("^", NAME)
        self.check("^1", NAME)
        self.check("^from(x) = x", NAME)
        self.check("f ^x", "( is expected")
        self.check("f(^) = 1", NAME)
        self.check("f(^1) = 1", NAME)
        self.check("f(x, ^) = 1", NAME)
        self.check("f(x ^y) = 1", ") is expected")
        self.check("f(x^.y) = 1", ") is expected")
        self.check("f(x) ^x", "= is expected")
        self.check("f(x) = ^", EXPRESSION)
        self.check("f(x) = x ^y", "the end is expected")
        self.check("f(x) = x^)", "the end is expected")
        self.check("f(x) = ^;", "unexpected character")
        self.assertIsNone(function_fault("f(x, x, y, z) = q"))


class Steps(unittest.TestCase):
    def test_what_belongs_together(self):
        table = ("table", 0)
        key = (column(0), False)
        self.assertEqual(plan_of("from t order by a limit 3 offset 2 distinct"),
                         ("distinct", ("top", (key,), 2, 3, table)))
        self.assertEqual(plan_of("from t order by a offset 2 limit 3 distinct"),
                         ("distinct", ("top", (), 0, 3, ("top", (key,), 2, None, table))))
        self.assertEqual(plan_of("from t limit 3 order by a distinct"),
                         ("distinct", ("top", (key,), 0, None, ("top", (), 0, 3, table))))
        self.assertEqual(plan_of("from t limit 3 limit 2 distinct"),
                         ("distinct", ("top", (), 0, 2, ("top", (), 0, 3, table))))
        self.assertEqual(plan_of("from t offset 3 offset 2 distinct"),
                         ("distinct", ("top", (), 2, None, ("top", (), 3, None, table))))

    def test_as_tokens_stand_side_by_side(self):
        self.assertEqual(format_query("from t where a=1 and e or(e)limit 1 offset 2"),
                         "from t where a = 1 and e or e limit 1 offset 2")


if __name__ == "__main__":
    unittest.main()
