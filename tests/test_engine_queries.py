"""Points 154, 160 to 162: queries of the engine, their options, and what is told of their way."""

import random
import unittest

from stylobate.engine.answers import Answer, Step
from stylobate.engine.engine import Engine
from stylobate.errors import InvalidOptions, QueryError, UnknownColumn
from stylobate.meaning.plans import answer_of
from stylobate.optimizer.choices import expected, physical
from stylobate.optimizer.default import default_moves
from stylobate.optimizer.moves import make_moves
from stylobate.optimizer.rules import RULES
from stylobate.optimizer.shown import shown_move, shown_physical, shown_plan
from stylobate.optimizer.statistics import statistics_of
from stylobate.running.physical import operators_of
from tests.engines import CITIES, Refusing, engine_of

JOINED = "from orders join people as p on p.name = who where id < $1 select id, city, total order by id desc"


class Answers(unittest.TestCase):
    def test_an_answer(self):
        names, kinds, rows = ["a", "b", "a"], ["int", "text", "int"], [[1, "x", 2], [3, "y", 4]]
        answer = Answer(names, kinds, rows, (1, 2, 3, 4))
        self.assertEqual((answer.names, answer.kinds, answer.rows, answer.counters), (names, kinds, rows, (1, 2, 3, 4)))
        self.assertEqual(list(answer), rows)
        self.assertEqual(len(answer), 2)
        self.assertEqual(answer.column("a"), [1, 3])
        self.assertEqual(answer.column("b"), ["x", "y"])
        for name in ("c", "A", ""):
            with self.assertRaises(UnknownColumn):
                answer.column(name)
        names.clear()
        rows[0].clear()
        self.assertEqual((answer.names, answer.rows), (["a", "b", "a"], [[1, "x", 2], [3, "y", 4]]))
        self.assertEqual(len(Answer([], [], [], (0, 0, 0, 0))), 0)

    def test_a_step(self):
        step = Step("union", 1, 2, 3, 4, 5, (6, 7, 8, 9))
        self.assertEqual((step.line, step.depth, step.expected, step.cost, step.given, step.needs, step.counters),
                         ("union", 1, 2, 3, 4, 5, (6, 7, 8, 9)))

    def test_names_kinds_and_rows(self):
        engine = engine_of()
        answer = engine.query(JOINED, parameters=[3])
        self.assertIsInstance(answer, Answer)
        self.assertEqual(answer.names, ["id", "city", "total"])
        self.assertEqual(answer.kinds, ["int", "text", "decimal"])
        self.assertEqual(answer.rows, [[2, "Oslo", "3"], [1, "Rome", "12.5"]])
        self.assertEqual(answer.column("total"), ["3", "12.5"])
        answer = engine.query("from orders as a join orders as b on b.id = a.id where a.id = 3")
        self.assertEqual(answer.names[:2] + answer.names[5:7], ["a.id", "a.who", "b.id", "b.who"])

    def test_how_values_come_out(self):
        engine = engine_of()
        answer = engine.query("from orders where id in (1, 3) select day, total, paid, who, id, day + 1 as next, "
                              "total / 4 as part, year(day) as y, -total as m")
        self.assertEqual(answer.kinds, ["date", "decimal", "bool", "text", "int", "date", "decimal", "int", "decimal"])
        self.assertEqual(answer.rows, [
            [None, None, None, None, 3, None, None, None, None],
            ["2026-01-31", "12.5", True, "ann", 1, "2026-02-01", "3.125", 2026, "-12.5"]])

    def test_order_and_cut(self):
        engine = engine_of()
        self.assertEqual(engine.query("from orders select id order by id desc limit 2 offset 1").rows, [[4], [3]])
        self.assertEqual(engine.query("from orders select who limit 2").rows, [[None], ["ann"]])
        self.assertEqual(engine.query("from orders select id, who order by who").column("id"), [3, 1, 4, 2, 5])
        self.assertEqual(engine.query("from orders limit 0").rows, [])

    def test_counters(self):
        engine = engine_of(2)
        # Two groups and a buffer; the order and the cut are not counted.
        self.assertEqual(engine.query("from orders order by id limit 1").counters, (2, 0, 3, 0))
        self.assertEqual(engine.query("from orders", batch=1).counters, (2, 0, 5, 0))
        self.assertEqual(engine.query("from orders where id > 2").counters, (1, 1, 2, 0))
        self.assertEqual(engine.query("from orders where id > 2", moves=[]).counters, (1, 1, 2, 0))
        self.assertEqual(engine.query("from orders distinct", memory=2, choices=[2]).counters, (2, 0, 4, 5))
        self.assertEqual(engine.query("from orders distinct", memory=5, choices=[2]).counters, (2, 0, 4, 0))

    def test_a_query_by_its_meaning(self):
        engine = engine_of()
        engine.drop("people")
        engine.create("people", [("name", "text", False), ("city", "text", True)], 1)
        engine.insert("people", CITIES)
        text = "from orders left join people as p on p.name = who order by id"
        query = engine.plan_of(text)
        self.assertEqual(query.plan[4:], (("table", 0), ("table", 2)))
        rows = answer_of(query, engine.rows_of_tables())
        self.assertEqual([row[:2] + row[5:] for row in rows], [row[:2] + row[5:] for row in engine.query(text).rows])

    def test_answers_are_new(self):
        engine = engine_of()
        first = engine.query("from people")
        first.rows[0][0] = "changed"
        first.names.clear()
        self.assertEqual(engine.query("from people").rows, CITIES)


class Options(Refusing, unittest.TestCase):
    def each(self, **options):
        """The methods that take these options."""
        yield "query"
        yield "export"
        yield "profile"
        if "batch" not in options and "memory" not in options:
            yield "explain"

    def test_bounds(self):
        engine = engine_of()
        for options in ({"parameters": [0] * 20}, {"parameters": (10 ** 15, -10 ** 15, "x" * 10000, True, None)},
                        {"batch": 1}, {"batch": 1000}, {"memory": 1}, {"memory": 100000}, {"choices": [0] * 100},
                        {"choices": (0, 100)}, {"moves": []}, {"moves": [("fold", 99)] * 100}, {"moves": None},
                        {"moves": [(rule, 0) for rule in RULES]}):
            for method in self.each(**options):
                getattr(engine, method)("from orders", **options)
            self.assertEqual(len(engine.query("from orders", **options)), 5)

    def test_beside_the_bounds(self):
        engine = engine_of()
        for options in ({"parameters": [0] * 21}, {"parameters": [10 ** 15 + 1]}, {"parameters": [-10 ** 15 - 1]},
                        {"parameters": ["x" * 10001]}, {"batch": 0}, {"batch": 1001}, {"batch": -1}, {"memory": 0},
                        {"memory": 100001}, {"choices": [0] * 101}, {"choices": [101]}, {"choices": [-1]},
                        {"moves": [("fold", 0)] * 101}, {"moves": [("fold", 100)]}, {"moves": [("fold", -1)]},
                        {"moves": [("folds", 0)]}, {"moves": [("", 0)]}):
            for method in self.each(**options):
                # Options are looked at before the text.
                self.refuse(engine, InvalidOptions, method, "this is no query", **options)
        for separator in ("", "ab", "\"", "\n"):
            self.refuse(engine, InvalidOptions, "export", "this is no query", separator=separator)

    def test_what_they_are_if_they_are_not_given(self):
        engine = Engine()
        engine.create("t", [("a", "int", False)], 1000)
        engine.insert("t", [[number] for number in range(1024)])
        # A group of 1000 rows in batches of 64, and a buffer.
        self.assertEqual(engine.query("from t").counters, (1, 0, 16 + 1, 0))
        self.assertEqual(engine.profile("from t")[0].counters, (1, 0, 16 + 1, 0))
        self.assertEqual(engine.query("from t distinct", choices=[2]).counters[3], 0)
        self.assertEqual(engine.profile("from t distinct", choices=[2])[0].counters[3], 0)
        engine.insert("t", [[1024]])
        self.assertEqual(engine.query("from t distinct", choices=[2]).counters[3], 1025)
        self.assertEqual(engine.profile("from t distinct", choices=[2])[0].counters[3], 1025)

    def test_faults_of_texts(self):
        engine = engine_of()
        for method in self.each():
            error = self.refuse(engine, QueryError, method, "from nobody")
            self.assertEqual((error.offset, error.reason), (5, "unknown table nobody"))
            error = self.refuse(engine, QueryError, method, "from orders where id = $2", parameters=[1])
            self.assertEqual((error.offset, error.reason), (23, "a parameter is not given"))
        self.refuse(engine, QueryError, "plan_of", "from orders where id = $1")

    def test_parameters(self):
        engine = engine_of()
        text = "from orders where id = $1 or who = $2 or paid = $3 select id"
        self.assertEqual(engine.query(text, parameters=[5, "bob", True]).rows, [[1], [2], [4], [5]])
        self.assertEqual(engine.query("from orders where id = 1 select $1 as a, $2 as b, $3 as c",
                                      parameters=[7, "x", False]).kinds, ["int", "text", "bool"])
        self.refuse(engine, QueryError, "query", "from orders where id = $1", parameters=[None])

    def test_options_are_not_changed(self):
        engine = engine_of()
        parameters, choices, moves = [3], [1, 2], [("fold", 0), ("commute", 0)]
        engine.query(JOINED, parameters=parameters, choices=choices, moves=moves)
        self.assertEqual((parameters, choices, moves), ([3], [1, 2], [("fold", 0), ("commute", 0)]))

    def test_the_same_rows_whatever_the_options(self):
        engine = engine_of()
        chance = random.Random(160)
        texts = [JOINED, "from orders group by rollup who aggregate count(*) as n, sum(total) where paid as s order by n",
                 "from orders window partition by who order by id compute number() as n, sum(id) as s",
                 "from orders where [who] not in (from people select name) distinct",
                 "from orders full join people as p on p.name = who and id < $1 select id, city"]
        for text in texts:
            wanted = engine.query(text, parameters=[9]).rows
            for _ in range(40):
                moves = [(chance.choice(RULES), chance.randrange(2)) for _ in range(chance.randrange(9))]
                answer = engine.query(text, parameters=[9], batch=chance.choice([1, 2, 9]), moves=moves,
                                      memory=chance.choice([1, 2, 9]), choices=[chance.randrange(5) for _ in range(4)])
                self.assertEqual(answer.rows, wanted, (text, moves))


class Ways(Refusing, unittest.TestCase):
    def test_export(self):
        engine = engine_of()
        text = "from orders where id < 4 select id, who, day, total, paid order by id"
        self.assertEqual(engine.export(text), "id,who,day,total,paid\n1,ann,2026-01-31,12.5,true\n"
                                              "2,bob,2026-02-01,3,false\n3,,,,\n")
        self.assertEqual(engine.export(text, separator=";", head=False),
                         "1;ann;2026-01-31;12.5;true\n2;bob;2026-02-01;3;false\n3;;;;\n")
        self.assertEqual(engine.export("from orders where id < $1 select id order by id desc limit 1", parameters=[3],
                                       batch=1, memory=1, choices=[1], moves=[("fold", 0)]), "id\n2\n")
        self.assertEqual(engine.export("from people where name = 'x'"), "name,city\n")
        loaded = engine_of()
        loaded.remove("orders", "true")
        loaded.load("orders", engine.export("from orders"))
        self.assertEqual(loaded.query("from orders").rows, engine.query("from orders").rows)

    def test_explain(self):
        engine = engine_of()
        text = "from orders join people as p on p.name = who where id < 1 + 2 select id, city order by id limit 1"
        told = engine.explain(text)
        self.assertEqual(list(told), ["written", "moves", "rewritten", "run"])
        self.assertEqual(told["written"], [
            "project [$0, $6]", "  filter ($0 < (1 + 2))", "    join inner on ($5 = $1)", "      table orders",
            "      table people"])
        query = engine.plan_of(text)
        statistics = statistics_of([5, 2], engine.rows_of_tables())
        moves = default_moves(query.plan, statistics)
        self.assertEqual(told["moves"], [shown_move(move) for move in moves])
        self.assertEqual(told["moves"][:3], ["fold at 0", "filter into join at 0", "condition to sides at 0"])
        rewritten = make_moves(moves, query.plan, [5, 2])
        self.assertEqual(told["rewritten"], shown_plan(rewritten, ["orders", "people"]))
        self.assertEqual(told["run"], shown_physical(physical(rewritten, statistics), ["orders", "people"]))

    def test_explain_with_moves_and_choices(self):
        engine = engine_of()
        told = engine.explain("from orders where true distinct", moves=[("commute", 7), ("drop filter", 0)], choices=[2])
        self.assertEqual(told, {
            "written": ["distinct", "  filter true", "    table orders"],
            "moves": ["commute at 7", "drop filter at 0"],
            "rewritten": ["distinct", "  table orders"],
            "run": ["distinct by sort", "  scan orders columns [0, 1, 2, 3, 4]"]})
        told = engine.explain("from orders where true and id = $1", parameters=[4], moves=[])
        self.assertEqual(told["moves"], [])
        self.assertEqual(told["written"], told["rewritten"])
        self.assertEqual(told["written"][0], "filter (true and ($0 = 4))")

    def test_names_of_tables_behind_dropped_ones(self):
        engine = engine_of()
        engine.drop("orders")
        self.assertEqual(engine.explain("from people")["run"], ["scan people columns [0, 1]"])

    def test_profile(self):
        engine = engine_of(2)
        text = "from orders where id > 2 group by who aggregate count(*) as n order by n"
        steps = engine.profile(text, batch=1, memory=1)
        told = [(step.line, step.depth, step.given, step.needs, step.counters) for step in steps]
        # The key None is held; ann and cid are written, once: the first parts of their hashes differ.
        self.assertEqual(told, [
            ("group by hash [$1] of [rows()]", 0, 3, 3, (0, 0, 3, 2)),
            ("scan orders columns [0, 1, 2, 3, 4] where (2 < $0)", 1, 3, 0, (1, 1, 3, 0))])
        query = engine.plan_of(text)
        statistics = statistics_of([5, 2], engine.rows_of_tables())
        plan = physical(make_moves(default_moves(query.plan, statistics), query.plan, [5, 2]), statistics)
        self.assertEqual([(step.expected, step.cost) for step in steps],
                         [expected(operator, statistics) for operator in operators_of(plan)])

    def test_profile_of_a_join(self):
        engine = engine_of(2)
        steps = engine.profile("from orders as o union (from orders join people on name = who select id, who, day, "
                               "total, paid)", moves=[], choices=[2])
        self.assertEqual([(step.line.split(" ")[0], step.depth) for step in steps], [
            ("union", 0), ("scan", 1), ("project", 1), ("join", 2), ("scan", 3), ("scan", 3)])
        self.assertTrue(steps[3].line.startswith("join inner by hash left keys [$1] and [$0]"))
        self.assertEqual([step.given for step in steps], [8, 5, 3, 3, 5, 3])
        self.assertEqual([step.needs for step in steps], [0, 0, 0, 5, 0, 0])
        answer = engine.query("from orders")
        self.assertEqual(steps[1].counters, answer.counters)

    def test_statistics_follow_the_rows(self):
        engine = Engine()
        engine.create("t", [("a", "int", False)], 10)
        self.assertEqual(engine.profile("from t")[0].expected, 0)
        engine.insert("t", [[1], [2], [3]])
        self.assertEqual(engine.profile("from t")[0].expected, 3)
        engine.remove("t", "a = 2")
        self.assertEqual(engine.profile("from t")[0].expected, 2)
        engine.begin()
        engine.update("t", [("a", "7")], "a = 1")
        self.assertEqual(engine.profile("from t where a = 7")[0].expected, 1)
        engine.rollback()
        self.assertEqual(engine.profile("from t where a = 7")[0].expected, 0)
