"""Points 155, 156, 163 and 164: kept answers, named queries and functions."""

import unittest

from stylobate.engine.answers import Answer
from stylobate.engine.engine import Engine
from stylobate.errors import (
    InvalidName, InvalidRow, NameTaken, QueryError, TooMany, UnknownAnswer, UnknownName, UnknownTable,
)
from tests.engines import CITIES, Refusing, engine_of

IDS = "from orders select id"


class Kept(Refusing, unittest.TestCase):
    def test_kept_answers_follow(self):
        engine = engine_of()
        text = ("from orders join people as p on p.name = who group by city aggregate count(*) as n, max(day) as d, "
                "sum(total) as s order by n desc limit 2")
        self.assertIsNone(engine.keep("cities", text))
        answer = engine.kept("cities")
        self.assertIsInstance(answer, Answer)
        self.assertEqual((answer.names, answer.kinds), (["city", "n", "d", "s"], ["text", "int", "date", "decimal"]))
        self.assertEqual(answer.counters, (0, 0, 0, 0))
        self.assertEqual(answer.rows, [["Rome", 2, "2026-02-28", "12.4999"], ["Oslo", 1, "2026-02-01", "3"]])
        for change in (lambda: engine.insert("orders", [[6, "dan", None, 1, None]] * 3),
                       lambda: engine.remove("people", "city = 'Rome'"),
                       lambda: engine.update("people", [("city", "'Ulm'")], "name = 'dan'"),
                       lambda: engine.load("people", "name\nann\n"),
                       lambda: engine.apply_all([("insert", "orders", [[7, "bob", "2026-05-05", "0.5", True]]),
                                                 ("remove", "orders", "id = 1"),
                                                 ("update", "orders", [("who", "'bob'")], "who = 'dan'")]),
                       lambda: engine.merge("orders"), lambda: engine.cluster("people", [("city", True)])):
            change()
            self.assertEqual(engine.kept("cities").rows, engine.query(text).rows)
        self.assertEqual(engine.kept("cities").rows, [["Oslo", 5, "2026-05-05", "6.5"], [None, 1, "2026-02-28", "-0.0001"]])

    def test_the_query_stays_as_it_was_bound(self):
        engine = engine_of()
        engine.define("big(x) = x > 2")
        engine.name_query("some", "from orders where big(id) select id")
        engine.keep("k", "from some")
        engine.undefine("big")
        engine.define("big(x) = x > 4")
        engine.name_query("some", "from orders where not big(id) select id")
        self.assertEqual(engine.kept("k").rows, [[3], [4], [5]])
        self.assertEqual(engine.query("from some").rows, [[1], [2], [3], [4]])
        engine.undefine("some")
        engine.insert("orders", [[9, None, None, None, None]])
        self.assertEqual(engine.kept("k").rows, [[3], [4], [5], [9]])

    def test_errors(self):
        engine = engine_of()
        engine.keep("k", IDS)
        for name in ("", "n" * 41):
            self.refuse(engine, InvalidName, "keep", name, "from")
        self.refuse(engine, QueryError, "keep", "k", "from nobody")
        error = self.refuse(engine, QueryError, "keep", "l", "from orders where id = $1")
        self.assertEqual(error.reason, "a parameter is not given")
        self.refuse(engine, NameTaken, "keep", "k", IDS)
        # Kept answers have names of their own.
        engine.name_query("l", IDS)
        for name in ("orders", "l", "n" * 40, "4", "5", "6", "7"):
            engine.keep(name, IDS)
        self.refuse(engine, NameTaken, "keep", "k", IDS)
        self.refuse(engine, TooMany, "keep", "m", IDS)
        self.refuse(engine, QueryError, "keep", "m", "from")
        engine.forget("4")
        engine.keep("m", IDS)
        self.assertEqual(engine.names()["kept"], ["k", "orders", "l", "n" * 40, "5", "6", "7", "m"])

    def test_forget(self):
        engine = engine_of()
        engine.keep("k", IDS)
        for method in ("kept", "forget"):
            self.refuse(engine, UnknownAnswer, method, "orders")
        self.assertIsNone(engine.forget("k"))
        for method in ("kept", "forget"):
            self.refuse(engine, UnknownAnswer, method, "k")
        engine.insert("people", [["zoe", None]])
        engine.keep("k", "from people")
        self.assertEqual(len(engine.kept("k")), 4)

    def test_a_refused_call_changes_no_kept_answer(self):
        engine = engine_of()
        engine.keep("k", IDS)
        self.refuse(engine, InvalidRow, "insert", "orders", [[6, None, None, None, None], [7]])
        self.refuse(engine, InvalidRow, "apply_all", [("insert", "orders", [[6, None, None, None, None]]),
                                                      ("update", "orders", [("id", "null")], "id = 6")])
        self.assertEqual(engine.kept("k").column("id"), [1, 2, 3, 4, 5])

    def test_answers_are_new(self):
        engine = engine_of()
        engine.keep("k", "from people")
        engine.kept("k").rows[0].clear()
        engine.kept("k").names.clear()
        self.assertEqual(engine.kept("k").rows, CITIES)


class Named(Refusing, unittest.TestCase):
    def test_named_queries(self):
        engine = engine_of()
        self.assertIsNone(engine.name_query("late", "FROM orders WHERE day>=date '2026-02-01' select id,who"))
        engine.name_query("who is late", "from late select who distinct")
        self.assertEqual(engine.names()["queries"], [
            ("late", "from orders where day >= date '2026-02-01' select id, who"),
            ("who is late", "from late select who distinct")])
        self.assertEqual(engine.query("from \"who is late\"").rows, [["ann"], ["bob"]])
        # The queries are bound anew each time.
        engine.insert("orders", [[8, "eve", "2026-03-01", None, None]])
        self.assertEqual(engine.query("from \"who is late\"").rows, [["ann"], ["bob"], ["eve"]])
        engine.drop("orders")
        error = self.refuse(engine, QueryError, "query", "from late")
        self.assertEqual(error.reason, "this query cannot be used: late")
        error = self.refuse(engine, QueryError, "query", "from \"who is late\"")
        self.assertEqual(error.reason, "this query cannot be used: who is late")
        engine.create("orders", [("who", "text", True), ("day", "date", True), ("id", "int", True)], 1)
        self.assertEqual(engine.query("from \"who is late\"").rows, [])

    def test_a_query_in_place_of_another_one(self):
        engine = engine_of()
        engine.name_query("a", "from orders")
        engine.name_query("b", "from a")
        engine.name_query("c", "from people")
        self.assertIsNone(engine.name_query("a", "from orders where id = 1"))
        self.assertEqual([name for name, _ in engine.names()["queries"]], ["a", "b", "c"])
        self.assertEqual(len(engine.query("from b")), 1)
        # Neither the query itself counts for its text, nor do those that were named after it.
        for name, text in (("b", "from b"), ("a", "from c"), ("b", "from c"), ("a", "from b")):
            error = self.refuse(engine, QueryError, "name_query", name, text)
            self.assertEqual((error.offset, error.reason), (5, "unknown table " + text[-1]))
        engine.name_query("b", "from a")
        engine.name_query("c", "from b")
        self.assertEqual(engine.query("from c").rows, engine.query("from orders where id = 1").rows)

    def test_errors(self):
        engine = engine_of()
        for name in ("", "n" * 41):
            self.refuse(engine, InvalidName, "name_query", name, "from")
        self.refuse(engine, QueryError, "name_query", "orders", "from nobody")
        self.refuse(engine, QueryError, "name_query", "q", "from orders where id = $1")
        self.refuse(engine, NameTaken, "name_query", "orders", IDS)
        for number in range(20):
            engine.name_query(f"q{number}", IDS)
        self.refuse(engine, NameTaken, "name_query", "orders", IDS)
        self.refuse(engine, TooMany, "name_query", "more", IDS)
        self.refuse(engine, QueryError, "name_query", "more", "from")
        engine.name_query("q7", "from people")
        self.assertEqual(len(engine.names()["queries"]), 20)
        engine.undefine("q7")
        engine.name_query("more", IDS)
        self.assertEqual(engine.names()["queries"][-1], ("more", IDS))
        self.refuse(engine, NameTaken, "create", "more", [("a", "int", True)], 1)

    def test_a_text_that_is_longer_when_it_is_written(self):
        engine = engine_of()
        numbers = ",".join(["1"] * 200)
        text = "from orders" + f" where id in({numbers})" * 9
        self.assertLess(len(text), 4000)
        written = text.replace(",", ", ").replace("in(", "in (")
        self.assertGreater(len(written), 4000)
        engine.name_query("q", text)
        self.assertEqual(engine.names()["queries"], [("q", written)])
        self.assertEqual(engine.query("from q select id").rows, [[1]])


class Functions(Refusing, unittest.TestCase):
    def test_define(self):
        engine = engine_of()
        self.assertEqual(engine.define("twice(x)=x*2"), "twice")
        self.assertEqual(engine.define("\"a b\"(x, y) = twice(x)+y"), "a b")
        self.assertEqual(engine.names()["functions"], ["twice (x) = x * 2", "\"a b\" (x, y) = twice (x) + y"])
        self.assertEqual(engine.query("from orders where id < 3 select \"a b\"(id, 10) as n").rows, [[12], [14]])
        self.assertEqual(engine.update("orders", [("id", "twice(id)")], "twice(id) > 6"), 2)
        self.assertEqual(sorted(engine.query(IDS).column("id")), [1, 2, 3, 8, 10])

    def test_errors(self):
        engine = engine_of()
        engine.define("f(x) = x")
        for text, reason in (("f(x) = x + 1", "the name stands already: f"), ("g(x) = y", "unknown name y"),
                             ("lower(x) = x", "the name stands already: lower"), ("g(x) = h(x)", "unknown function h"),
                             ("g(x, x) = x", "the name stands twice: x"), ("g(x) = x x", "the end is expected"),
                             ("g(x) = $1", "a parameter is not given"), ("g() = 1", "a name is expected")):
            error = self.refuse(engine, QueryError, "define", text)
            self.assertEqual(error.reason, reason, text)
        for number in range(7):
            engine.define(f"g{number}(x) = f(x)")
        self.refuse(engine, TooMany, "define", "h(x) = x")
        self.refuse(engine, QueryError, "define", "h(x) = y")
        engine.undefine("g3")
        engine.define("h(x) = x")

    def test_undefine(self):
        engine = engine_of()
        engine.define("f(x) = x + 1")
        engine.define("g(x) = f(x)")
        engine.name_query("f", "from orders select g(id) as n")
        self.assertEqual(len(engine.query("from f")), 5)
        # The named query and the function go together.
        self.assertIsNone(engine.undefine("f"))
        self.assertEqual((engine.names()["queries"], engine.names()["functions"]), ([], ["g (x) = f (x)"]))
        error = self.refuse(engine, QueryError, "query", "from orders select g(id) as n")
        self.assertEqual(error.reason, "this function cannot be used: g")
        # A function that is defined again stands behind those that call it.
        engine.define("f(x) = x")
        self.refuse(engine, QueryError, "query", "from orders select g(id) as n")
        engine.undefine("g")
        engine.define("g(x) = f(x)")
        self.assertEqual(len(engine.query("from orders select g(id) as n")), 5)
        for name in ("orders", "", "F", "twice"):
            self.refuse(engine, UnknownName, "undefine", name)

    def test_named_queries_without_their_function(self):
        engine = engine_of()
        engine.define("f(x) = x + 1")
        engine.name_query("q", "from orders select f(id) as n")
        engine.undefine("f")
        error = self.refuse(engine, QueryError, "query", "from q")
        self.assertEqual(error.reason, "this query cannot be used: q")
        engine.define("f(x) = x || '!'")
        self.refuse(engine, QueryError, "query", "from q")
        engine.undefine("f")
        engine.define("f(x) = x")
        self.assertEqual(engine.query("from q").column("n"), [1, 2, 3, 4, 5])

    def test_a_function_that_is_longer_when_it_is_written(self):
        engine = engine_of()
        text = "f(x)=x in(" + ",".join(["-1"] * 240) + ")or length('" + "a" * 3200 + "')=0"
        self.assertLess(len(text), 4000)
        engine.define(text)
        self.assertGreater(len(engine.names()["functions"][0]), 4000)
        self.assertEqual(engine.query("from orders where f(id) select id").rows, [])
        engine.define("g(x) = not f(x)")
        self.assertEqual(engine.query("from orders where g(id) select id").column("id"), [1, 2, 3, 4, 5])


class Names(Refusing, unittest.TestCase):
    def test_all_names(self):
        engine = Engine()
        self.assertEqual(engine.names(), {"tables": [], "kept": [], "queries": [], "functions": []})
        engine = engine_of()
        engine.keep("b", IDS)
        engine.keep("a", IDS)
        engine.name_query("q", IDS)
        engine.define("f(x) = x")
        self.assertEqual(list(engine.names()), ["tables", "kept", "queries", "functions"])
        self.assertEqual(engine.names(), {
            "tables": [("orders", 5), ("people", 3)], "kept": ["b", "a"], "queries": [("q", IDS)],
            "functions": ["f (x) = x"]})
        for found in engine.names().values():
            found.clear()
        self.assertEqual(len(engine.names()["kept"]), 2)

    def test_unknown_tables(self):
        engine = engine_of()
        engine.name_query("q", IDS)
        for method, arguments in (("drop", ()), ("insert", ([],)), ("load", ("",)), ("remove", ("true",)),
                                  ("update", ([], "true")), ("flush", ()), ("merge", ()), ("cluster", ([],)),
                                  ("reencode", (0, "id", "plain")), ("layout", ()), ("save", ())):
            for name in ("q", "Orders", ""):
                self.refuse(engine, UnknownTable, method, name, *arguments)
