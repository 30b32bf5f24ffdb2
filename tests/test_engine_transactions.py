"""Points 5 and 165: transactions, and deeds that are done all or not at all."""

import unittest

from stylobate.engine.engine import Engine
from stylobate.errors import InvalidRow, NoTransaction, QueryError, TableFull, TooMany, UnknownColumn, UnknownTable
from tests.engines import CITIES, Refusing, engine_of, state_of


def change_everything(engine):
    """Change whatever an engine has."""
    engine.insert("people", [["eve", None], ["eve", "Ulm"]])
    engine.remove("orders", "id < 3")
    engine.update("orders", [("who", "'zoe'")], "id = 4")
    engine.flush("orders")
    engine.merge("orders")
    engine.cluster("people", [("city", False)])
    engine.reencode("people", 0, "name", "plain")
    engine.create("more", [("a", "int", True)], 3)
    engine.restore("copy", engine.save("people"))
    engine.drop("more")
    engine.forget("k")
    engine.keep("l", "from people")
    engine.name_query("q", "from people")
    engine.name_query("r", "from q")
    engine.undefine("f")
    engine.define("g(x) = x")


def engine_with_all():
    engine = engine_of()
    engine.keep("k", "from orders group by who aggregate count(*) as n")
    engine.name_query("q", "from orders")
    engine.define("f(x) = x + 1")
    return engine


class Transactions(Refusing, unittest.TestCase):
    def test_rollback(self):
        engine = engine_with_all()
        before = state_of(engine)
        self.assertIsNone(engine.begin())
        self.assertEqual(engine.open_transactions, 1)
        change_everything(engine)
        self.assertIsNone(engine.rollback())
        self.assertEqual(engine.open_transactions, 0)
        self.assertEqual(state_of(engine), before)

    def test_what_was_rolled_back_is_as_if_it_had_not_been(self):
        engine, other = engine_with_all(), engine_with_all()
        engine.begin()
        change_everything(engine)
        engine.rollback()
        for one in (engine, other):
            one.insert("orders", [[9, "bob", None, 7, None]])
            one.create("more", [("a", "int", True)], 3)
        for text in ("from orders", "from q where f(id) > 3", "from orders join people on name = who distinct"):
            self.assertEqual(engine.query(text).rows, other.query(text).rows)
            self.assertEqual(engine.query(text, memory=1).counters, other.query(text, memory=1).counters)
            self.assertEqual(engine.explain(text), other.explain(text))
        self.assertEqual(state_of(engine), state_of(other))

    def test_commit(self):
        engine, other = engine_with_all(), engine_with_all()
        engine.begin()
        change_everything(engine)
        self.assertIsNone(engine.commit())
        change_everything(other)
        self.assertEqual(state_of(engine), state_of(other))

    def test_nested(self):
        engine = engine_of()
        states = []
        for number in range(4):
            states.append(state_of(engine).rsplit(",", 1)[0])
            engine.begin()
            engine.insert("people", [[f"p{number}", None]])
        self.assertEqual(engine.open_transactions, 4)
        engine.rollback()
        self.assertEqual(state_of(engine).rsplit(",", 1)[0], states[3])
        engine.commit()
        self.assertEqual(len(engine.query("from people")), 6)
        engine.rollback()
        self.assertEqual(state_of(engine).rsplit(",", 1)[0], states[1])
        engine.begin()
        engine.remove("people", "true")
        engine.commit()
        engine.rollback()
        self.assertEqual(state_of(engine).rsplit(",", 1)[0], states[0])
        self.assertEqual(engine.query("from people").rows, CITIES)
        self.assertEqual(engine.open_transactions, 0)

    def test_bounds(self):
        engine = Engine()
        for method in ("commit", "rollback"):
            self.refuse(engine, NoTransaction, method)
        for number in range(8):
            self.assertEqual(engine.open_transactions, number)
            engine.begin()
        self.refuse(engine, TooMany, "begin")
        engine.commit()
        engine.begin()
        for _ in range(8):
            engine.rollback()
        for method in ("commit", "rollback"):
            self.refuse(engine, NoTransaction, method)

    def test_a_rollback_keeps_what_was_remembered_before(self):
        engine = engine_of()
        engine.begin()
        engine.insert("people", [["one", None]])
        engine.begin()
        engine.insert("people", [["two", None]])
        engine.rollback()
        engine.insert("people", [["three", None]])
        engine.rollback()
        self.assertEqual(engine.query("from people").rows, CITIES)
        engine.insert("people", [["four", None]])
        self.assertEqual(len(engine.query("from people")), 4)


class Deeds(Refusing, unittest.TestCase):
    def test_all_of_them(self):
        engine = engine_with_all()
        deeds = [("insert", "people", [["eve", None], ["fay", "Ulm"]]), ("remove", "people", "city is null"),
                 ("update", "people", [("city", "upper(city)")], "name > 'b'"), ("insert", "people", []),
                 ("remove", "orders", "id = 1")]
        self.assertEqual(engine.apply_all(deeds), [2, 2, 2, 0, 1])
        self.assertEqual(engine.rows_of_tables()[1], [["ann", "Rome"], ["bob", "OSLO"], ["fay", "ULM"]])
        self.assertEqual(engine.kept("k").rows, engine.query("from orders group by who aggregate count(*) as n").rows)
        self.assertEqual(engine.apply_all([]), [])
        self.assertEqual(len(deeds), 5)

    def test_the_same_as_one_after_another(self):
        one, other = engine_with_all(), engine_with_all()
        deeds = [("insert", "orders", [[number, "x", None, number, None] for number in range(10, 15)]),
                 ("update", "orders", [("id", "-id"), ("who", "'y'")], "id > 3"), ("remove", "orders", "who = 'y' and id < -12")]
        one.apply_all(deeds)
        other.insert(*deeds[0][1:])
        other.update(*deeds[1][1:])
        other.remove(*deeds[2][1:])
        self.assertEqual(state_of(one), state_of(other))

    def test_none_of_them(self):
        engine = engine_with_all()
        good = [("insert", "people", [["eve", None]]), ("remove", "orders", "true"),
                ("update", "people", [("city", "null")], "true")]
        for error, wrong in (
                (UnknownTable, ("insert", "nobody", [])), (InvalidRow, ("insert", "people", [["x"]])),
                (UnknownTable, ("remove", "nobody", "true")), (QueryError, ("remove", "people", "name")),
                (UnknownColumn, ("update", "people", [], "true")), (QueryError, ("update", "people", [("name", "1")], "true")),
                (InvalidRow, ("update", "people", [("name", "null")], "true")), (UnknownTable, ("update", "nobody", [], "("))):
            for place in range(4):
                self.refuse(engine, error, "apply_all", good[:place] + [wrong] + good[place:])
        # The errors are those of the first deed that cannot be done.
        self.refuse(engine, InvalidRow, "apply_all", [("insert", "people", [[1, 2]]), ("remove", "nobody", "")])

    def test_a_full_table(self):
        engine = Engine()
        engine.create("t", [("a", "int", True)], 1000)
        engine.insert("t", [[1]] * 19999)
        with self.assertRaises(TableFull):
            engine.apply_all([("insert", "t", [[2]]), ("insert", "t", [[3]])])
        self.assertEqual(engine.names()["tables"], [("t", 19999)])
        self.assertEqual(engine.apply_all([("insert", "t", [[2]])]), [1])

    def test_within_a_transaction(self):
        engine = engine_of()
        engine.begin()
        engine.apply_all([("remove", "people", "true")])
        self.refuse(engine, InvalidRow, "apply_all", [("insert", "people", [["x", None]]), ("insert", "people", [[]])])
        self.assertEqual(engine.open_transactions, 1)
        engine.rollback()
        self.assertEqual(engine.rows_of_tables()[1], CITIES)
