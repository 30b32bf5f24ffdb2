"""Points 61 to 63: texts of queries and functions in their one form."""

import random
import unittest

from stylobate.errors import QueryError
from stylobate.language.printing import format_function, format_query
from stylobate.language.queries import bind_query
from stylobate.language.tokens import read_tokens
from tests.queries import CATALOG, fault_of
from tests.random_queries import KINDS, Maker
from tests.samples import is_exactly


class Queries(unittest.TestCase):
    def check(self, text, wanted):
        self.assertEqual(format_query(text), wanted)
        self.assertEqual(format_query(wanted), wanted)

    def test_spaces_and_keywords(self):
        self.check("FROM  t\n\tWHERE( a )=1 -- why\n AND NOT e",
                   "from t where a = 1 and not e")
        self.check("from t where lower(b)='x' And f ( a,b , t . c )", "from t where lower (b) = 'x' and f (a, b, t.c)")
        self.check("from t select a,b As x", "from t select a, b as x")
        self.check("from t where a!=1 or a<>2", "from t where a <> 1 or a <> 2")
        self.check("from(from t)as x", "from (from t) as x")

    def test_names(self):
        self.check('from "t" where "a b" = "select" and "SELECT" = "x""y" and "_a1" = "1a" and "a-" = A',
                   'from t where "a b" = "select" and "SELECT" = "x""y" and _a1 = "1a" and "a-" = A')
        self.check('from "T" as "from" where "from" . "Null" = "date" and "rows" = first',
                   'from T as "from" where "from"."Null" = date and rows = first')
        self.check('from t where "lower"(b) = "sum"("by") and "date" = date \'x\'',
                   "from t where lower (b) = sum (\"by\") and date = date 'x'")

    def test_literals(self):
        self.check("from t where a in (007, -0, - 5, 1.50, 2.0000, -0.0, 00.5, 'it''s', '', TRUE, False, NULL, DATE 'x')",
                   "from t where a in (7, 0, - 5, 1.5, 2.0, 0.0, 0.5, 'it''s', '', true, false, null, date 'x')")
        self.check("from t where -5 = -x and $01 = 1000000000000000 and 100000000000.0 = -100000000000.0000",
                   "from t where - 5 = - x and $1 = 1000000000000000 and 100000000000.0 = - 100000000000.0")

    def test_sources_and_steps(self):
        self.check("WITH x AS (FROM t) WITH y AS (FROM x) FROM y AS z",
                   "with x as (from t) with y as (from x) from y as z")
        self.check("from t JOIN u ON a=b Left Join (from u) AS v ON true FULL JOIN w as q ON c CROSS JOIN k",
                   "from t join u on a = b left join (from u) as v on true full join w as q on c cross join k")
        self.check("from t WHERE EXISTS u ON a WHERE NOT EXISTS (from u) AS v ON b WHERE [a,b] IN (from u) "
                   "WHERE [ a ] NOT IN (from u)",
                   "from t where exists u on a where not exists (from u) as v on b where [a, b] in (from u) "
                   "where [a] not in (from u)")
        self.check("from t LET x=(from u) DISTINCT UNION(from t) INTERSECT(from t) EXCEPT(from t)",
                   "from t let x = (from u) distinct union (from t) intersect (from t) except (from t)")
        self.check("from t EXTEND a+1 AS x,b", "from t extend a + 1 as x, b")

    def test_groups(self):
        self.check("from t GROUP BY a,b AS k AGGREGATE count( * ) AS n,count(a)WHERE e AS m,count(DISTINCT(a+b)) AS o",
                   "from t group by a, b as k aggregate count (*) as n, count (a) where e as m, "
                   "count (distinct a + b) as o")
        self.check("from t GROUP BY ROLLUP a,b", "from t group by rollup a, b")
        self.check("from t GROUP BY CUBE a AGGREGATE grouping(a)AS g", "from t group by cube a aggregate grouping (a) as g")
        self.check("from t GROUP BY a,b SETS(a,b),( ),(\"select\")",
                   "from t group by a, b sets (a, b), (), (\"select\")")
        self.check("from t AGGREGATE avg(a) AS x", "from t aggregate avg (a) as x")

    def test_windows(self):
        self.check("from t WINDOW PARTITION BY a,b ORDER BY c DESC,d COMPUTE number( ) AS n,tile(04) AS q",
                   "from t window partition by a, b order by c desc, d compute number () as n, tile (4) as q")
        self.check("from t window compute FIRST(a) ROWS 01 BEFORE AND 0 AFTER as x, Last(a) as y, sum(a+1) as z",
                   "from t window compute first (a) rows 1 before and 0 after as x, last (a) as y, sum (a + 1) as z")
        self.check("from t window compute BEFORE(a) as x, after(a, 1) as y, before(a, 002) as z, after(a, 0) as w, tile(1) as v",
                   "from t window compute before (a) as x, after (a) as y, before (a, 2) as z, after (a, 0) as w, "
                   "tile (1) as v")

    def test_orders(self):
        self.check("from t ORDER BY a ASC,b DESC,c NULLS FIRST,d ASC Nulls LAST,e desc nulls first LIMIT 05 OFFSET 1",
                   "from t order by a, b desc, c nulls first, d nulls last, e desc nulls first limit 5 offset 1")
        self.check("from t limit 0 offset 3 limit 2 order by a", "from t limit 0 offset 3 limit 2 order by a")

    def test_one_line(self):
        self.assertEqual(format_query("from t -- a\n\n\n-- b\nwhere\te\n--"), "from t where e")


class Brackets(unittest.TestCase):
    def check(self, text, wanted=None):
        wanted = text if wanted is None else wanted
        self.assertEqual(format_query("from t where " + text), "from t where " + wanted)
        self.assertEqual(format_query("from t where " + wanted), "from t where " + wanted)

    def test_left_and_right(self):
        self.check("((a or b) or c) and (d and (e and f))", "(a or b or c) and (d and (e and f))")
        self.check("a or (b or c)")
        self.check("(a and b) or (c and d)", "a and b or c and d")
        self.check("(a - b) - (c - d)", "a - b - (c - d)")
        self.check("(a * b) + (c * d) * (e + f)", "a * b + c * d * (e + f)")
        self.check("a * (b / c)")
        self.check("((a)) = (((b + c)))", "a = b + c")
        self.check("(a = b) = (c = d)", "a = b = (c = d)")
        self.check("(a || b) || c", "a || b || c")
        self.check("a mod (b mod c)")
        self.check("(a < b) + c")
        self.check("(a is null) + 1")
        self.check("(a || b) * c")
        self.check("a * (b || c)")
        self.check("a * (b - c) / d")
        self.check("(a || b) + c - d", "a || b + c - d")
        self.check("a + (b || c)")

    def test_not(self):
        self.check("not (a and b)")
        self.check("not (a or b)")
        self.check("not (a = b)", "not a = b")
        self.check("not (not (a))", "not not a")
        self.check("(not a) and (not b)", "not a and not b")
        self.check("(not a) = b")
        self.check("a = (not b)")
        self.check("(not a) is null")
        self.check("not (a is null)", "not a is null")
        self.check("- (not a)")

    def test_behind_and_in_front_of_words(self):
        self.check("(a = b) is null", "a = b is null")
        self.check("(a and b) is not null")
        self.check("(a is null) is null", "a is null is null")
        self.check("(a like b) like (c like d)", "a like b like (c like d)")
        self.check("a like (b || c)", "a like b || c")
        self.check("(a or b) like (c = d)")
        self.check("(a between b and c) between (d + e) and (f = g)", "a between b and c between d + e and (f = g)")
        self.check("a between (b and c) and (not d)")
        self.check("(a in (1)) in (2)", "a in (1) in (2)")
        self.check("(a not in (1)) not like b", "a not in (1) not like b")
        self.check("(not a) in (1)")
        self.check("(a + b) in (1)", "a + b in (1)")

    def test_minus(self):
        self.check("-(a)", "- a")
        self.check("-(5)", "- (5)")
        self.check("-(1.5)", "- (1.5)")
        self.check("-(-5)", "- - 5")
        self.check("- -5", "- - 5")
        self.check("-(-(5))", "- - (5)")
        self.check("-(-0)", "- (0)")
        self.check("-(- a)", "- - a")
        self.check("-(a + b)", "- (a + b)")
        self.check("-(a * b)", "- (a * b)")
        self.check("(-a) * (-b)", "- a * - b")
        self.check("a - (-b)", "a - - b")
        self.check("a - -5", "a - - 5")
        self.check("-(5) * 2", "- (5) * 2")
        self.check("-('x')", "- 'x'")
        self.check("-($1)", "- $1")
        self.check("-(lower(a))", "- lower (a)")

    def test_where_none_are_needed(self):
        self.check("lower((a or b))", "lower (a or b)")
        self.check("f((a), (b = c), (not d))", "f (a, b = c, not d)")
        self.check("case when (a or b) then (c) else (not d) end", "case when a or b then c else not d end")
        self.check("(case when a then b else c end) + (1)", "case when a then b else c end + 1")
        self.check("(t.a) = ($1) and ((a in (1)))", "t.a = $1 and a in (1)")


class Functions(unittest.TestCase):
    def test_functions(self):
        told = {"f(x,y)=x*2+y": "f (x, y) = x * 2 + y", '"f"("x")=("x")': "f (x) = x",
                "F ( a ) = -- why\n (a OR b)": "F (a) = a or b", '"if not"("from", x)="from"': '"if not" ("from", x) = "from"',
                "f(x,x,y,z)=$01 + t.q": "f (x, x, y, z) = $1 + t.q"}
        for text, wanted in told.items():
            self.assertEqual(format_function(text), wanted)
            self.assertEqual(format_function(wanted), wanted)

    def test_faults(self):
        self.assertEqual(fault_of(format_function, "f(x) = 'x"), (7, "the text is not closed"))
        self.assertEqual(fault_of(format_function, "f(x) = " + "(" * 21), (27, "nested too deeply"))
        self.assertEqual(fault_of(format_function, "f(x) = x y"), (9, "the end is expected"))
        self.assertEqual(fault_of(format_query, "from t where 'x"), (13, "the text is not closed"))
        self.assertEqual(fault_of(format_query, "from t where " + "(" * 21), (33, "nested too deeply"))
        self.assertEqual(fault_of(format_query, "from nothing where nothing = f(x)"), None)

    def test_long_ones(self):
        text = "f(x)=" + "+".join(["x"] * 1990)
        self.assertEqual(format_function(text), "f (x) = " + " + ".join(["x"] * 1990))


def bound(text):
    query = bind_query(text, CATALOG)
    return (query.plan, query.names, query.kinds, query.order, query.skip, query.limit)


def without_brackets(text, opening):
    """Return the text without the bracket at a place and the one that closes it."""
    depth = 0
    for form, value, offset in read_tokens(text):
        if offset >= opening and form == "sign" and value in "()":
            depth += 1 if value == "(" else -1
            if depth == 0:
                return text[:opening] + " " + text[opening + 1:offset] + " " + text[offset + 1:]
    return None


class ByChance(unittest.TestCase):
    def test_the_written_text_means_the_same(self):
        chance = random.Random(63)
        refused = 0
        for _ in range(700):
            text = Maker(chance).query()
            written = format_query(text)
            self.assertEqual(format_query(written), written, text)
            self.assertNotIn("\n", written)
            fault = fault_of(bind_query, text, CATALOG)
            if fault is None:
                self.assertTrue(is_exactly(bound(written), bound(text)), text)
            else:
                refused += 1
                self.assertEqual(fault_of(bind_query, written, CATALOG)[1], fault[1], text)
        self.assertLess(refused, 100)

    def test_no_bracket_is_left_that_is_not_needed(self):
        chance = random.Random(62)
        looked_at = 0
        for _ in range(400):
            kind = chance.choice(KINDS)
            text = f"from t select {Maker(chance).expression(kind, 4)} as x"
            written = format_query(text)
            meaning = bound(written)
            for form, value, offset in read_tokens(written):
                front = written[:offset].split(" ")[-2:][0]
                if (form, value) != ("sign", "(") or front in ("in", "coalesce", "length", "part"):
                    continue
                looked_at += 1
                self.assertFalse(self.means(without_brackets(written, offset), meaning), written)
        self.assertGreater(looked_at, 300)

    def means(self, text, meaning):
        try:
            return is_exactly(bound(text), meaning)
        except QueryError:
            return False


if __name__ == "__main__":
    unittest.main()
