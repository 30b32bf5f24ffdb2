"""Points 153 to 159: tables of the engine, their rows and their layout."""

import unittest

from stylobate.engine.engine import Engine
from stylobate.errors import (
    InvalidColumns, InvalidEncoding, InvalidFile, InvalidName, InvalidOptions, InvalidRow, InvalidSize, InvalidText,
    NameTaken, QueryError, TableFull, TableInUse, TooMany, UnknownColumn, UnknownGroup, UnknownTable,
)
from stylobate.storage.columns import column_size
from stylobate.storage.files import read_table
from tests.engines import CITIES, ORDERS, PEOPLE, ROWS, Refusing, engine_of, state_of

ONE = [("a", "int", True)]


class Creating(Refusing, unittest.TestCase):
    def test_create(self):
        engine = Engine()
        self.assertIsNone(engine.create("t", ONE, 1))
        self.assertIsNone(engine.create("n" * 40, [("c" * 40, "text", False)], 1000))
        twelve = [(f"c{number}", "bool", True) for number in range(12)]
        engine.create("u", twelve, 5)
        self.assertEqual(engine.names()["tables"], [("t", 0), ("n" * 40, 0), ("u", 0)])
        self.assertEqual(engine.layout("u"), {"size": 5, "buffer": 0, "groups": []})
        self.assertEqual(engine.rows_of_tables(), [[], [], []])
        twelve.append(("more", "int", True))
        self.assertEqual(engine.query("from u").names, [f"c{number}" for number in range(12)])

    def test_what_cannot_be_created(self):
        engine = Engine()
        engine.create("t", ONE, 1)
        engine.name_query("q", "from t")
        for name in ("", "n" * 41):
            self.refuse(engine, InvalidName, "create", name, ONE, 1)
        for columns in ([], [(f"c{number}", "int", True) for number in range(13)], ONE + ONE, [("", "int", True)],
                        [("c" * 41, "int", True)], [("a", "integer", True)], [("a", "INT", True)],
                        [("a", "int", True), ("a", "text", False)]):
            self.refuse(engine, InvalidColumns, "create", "u", columns, 1)
        for size in (0, -1, 1001):
            self.refuse(engine, InvalidSize, "create", "u", ONE, size)
        self.refuse(engine, NameTaken, "create", "t", ONE, 1)
        self.refuse(engine, NameTaken, "create", "q", ONE, 1)

    def test_the_order_of_errors(self):
        engine = Engine()
        for number in range(8):
            engine.create(f"t{number}", ONE, 1)
        self.refuse(engine, InvalidName, "create", "", [], 0)
        self.refuse(engine, InvalidColumns, "create", "t1", [], 0)
        self.refuse(engine, InvalidSize, "create", "t1", ONE, 0)
        self.refuse(engine, NameTaken, "create", "t1", ONE, 1)
        self.refuse(engine, TooMany, "create", "t8", ONE, 1)
        engine.drop("t3")
        engine.create("t8", ONE, 1)
        self.refuse(engine, TooMany, "create", "t9", ONE, 1)

    def test_a_hundred_tables_altogether(self):
        engine = Engine()
        for number in range(100):
            engine.create("t", ONE, 1)
            if number < 99:
                engine.drop("t")
        self.assertEqual(len(engine.rows_of_tables()), 100)
        self.refuse(engine, NameTaken, "create", "t", ONE, 1)
        octets = engine.save("t")
        self.refuse(engine, TooMany, "create", "u", ONE, 1)
        self.refuse(engine, TooMany, "restore", "u", octets)

    def test_drop(self):
        engine = engine_of()
        self.assertIsNone(engine.drop("orders"))
        self.assertEqual(engine.names()["tables"], [("people", 3)])
        self.assertEqual(engine.rows_of_tables(), [[], CITIES])
        self.refuse(engine, UnknownTable, "drop", "orders")
        self.refuse(engine, UnknownTable, "drop", "")
        self.refuse(engine, QueryError, "query", "from orders")
        self.assertEqual(engine.query("from people").rows, CITIES)
        engine.create("orders", ONE, 3)
        self.assertEqual(engine.rows_of_tables(), [[], CITIES, []])
        self.assertEqual(engine.plan_of("from orders").plan, ("table", 2))

    def test_a_table_in_use(self):
        engine = engine_of()
        engine.name_query("all", "from orders join people on name = who")
        engine.keep("k", "from all where id > 1")
        for name in ("orders", "people"):
            self.refuse(engine, TableInUse, "drop", name)
        engine.undefine("all")
        self.refuse(engine, TableInUse, "drop", "orders")
        engine.forget("k")
        engine.drop("orders")
        engine.drop("people")


class Inserting(Refusing, unittest.TestCase):
    def test_values_of_every_kind(self):
        engine = engine_of()
        self.assertEqual(engine.rows_of_tables()[0], [
            [1, "ann", 20484, 125000, True], [2, "bob", 20485, 30000, False], [3, None, None, None, None],
            [4, "ann", 20512, -1, True], [5, "cid", 20453, 1000000, None]])
        self.assertEqual(engine.insert("orders", []), 0)
        self.assertEqual(engine.insert("orders", [[6, "", "0001-01-01", 100000000000, None],
                                                  [7, "x" * 10000, "9999-12-31", -100000000000, None],
                                                  [10 ** 15, None, None, "100000000000", None],
                                                  [-10 ** 15, None, None, "0.5", None]]), 4)
        self.assertEqual(engine.rows_of_tables()[0][5:], [
            [6, "", -719162, 10 ** 15, None], [7, "x" * 10000, 2932896, -10 ** 15, None],
            [10 ** 15, None, None, 10 ** 15, None], [-10 ** 15, None, None, 5000, None]])
        self.assertEqual(engine.names()["tables"], [("orders", 9), ("people", 3)])

    def test_values_that_do_not_fit(self):
        engine = engine_of()
        good = [9, "z", "2026-01-01", "1", True]
        for place, value in ((0, None), (0, True), (0, "1"), (0, 10 ** 15 + 1), (0, -10 ** 15 - 1), (1, 5), (1, False),
                             (1, "x" * 10001), (2, 20484), (2, "2026-02-29"), (2, "2026-1-1"), (2, ""), (2, True),
                             (3, True), (3, "1."), (3, "1.00001"), (3, "x"), (3, 100000000001), (3, -100000000001),
                             (3, "100000000000.0001"), (4, 1), (4, 0), (4, "true")):
            row = list(good)
            row[place] = value
            error = self.refuse(engine, InvalidRow, "insert", "orders", [good, row, row])
            self.assertEqual(error.place, 1, value)
        for row in ([], good[:4], good + [None]):
            self.assertEqual(self.refuse(engine, InvalidRow, "insert", "orders", [row]).place, 0)
        self.refuse(engine, UnknownTable, "insert", "order", [[None]])

    def test_bounds(self):
        engine = Engine()
        engine.create("t", ONE, 1000)
        rows = [[number] for number in range(19999)]
        self.assertEqual(engine.insert("t", rows), 19999)
        self.refuse_lightly(engine, TableFull, "insert", "t", [[1], [2]])
        error = self.refuse_lightly(engine, InvalidRow, "insert", "t", [[1], ["x"]])
        self.assertEqual(error.place, 1)
        engine.insert("t", [[1]])
        self.refuse_lightly(engine, TableFull, "load", "t", "a\n1\n")
        self.assertEqual(engine.load("t", "a\n"), 0)
        # The table has twenty full groups: rows that are deleted still stand in them.
        self.assertEqual(engine.remove("t", "a < 5000"), 5001)
        self.refuse_lightly(engine, TableFull, "insert", "t", [[1]])
        self.refuse_lightly(engine, TableFull, "update", "t", [("a", "0")], "a = 7000")
        engine.merge("t")
        self.assertEqual(engine.names()["tables"], [("t", 14999)])
        engine.insert("t", [[1]] * 5001)
        self.refuse_lightly(engine, TableFull, "insert", "t", [[1]])

    def refuse_lightly(self, engine, error, method, *arguments):
        before = (engine.names(), engine.layout("t"))
        with self.assertRaises(error) as caught:
            getattr(engine, method)(*arguments)
        self.assertEqual((engine.names(), engine.layout("t")), before)
        return caught.exception

    def test_rows_of_the_buffer_make_room_for_an_update(self):
        engine = Engine()
        engine.create("t", ONE, 1000)
        engine.insert("t", [[number] for number in range(19990)])
        # The 990 newest rows stand in the buffer, and leave it when they are deleted.
        self.assertEqual(engine.update("t", [("a", "-a")], "a >= 19000"), 990)
        self.assertEqual(engine.names()["tables"], [("t", 19990)])
        self.assertEqual(engine.update("t", [("a", "-1")], "a < 10 and a >= 0"), 10)
        self.refuse_lightly(engine, TableFull, "update", "t", [("a", "-1")], "a = 10")
        self.assertEqual(engine.update("t", [("a", "-1")], "a = 50000"), 0)

    def test_load(self):
        engine = engine_of()
        self.assertEqual(engine.load("people", "city,name\nBonn,eve\n,\"f, g\"\n"), 2)
        self.assertEqual(engine.load("people", "h;\n", separator=";", head=False), 1)
        self.assertEqual(engine.rows_of_tables()[1], CITIES + [["eve", "Bonn"], ["f, g", None], ["h", None]])
        error = self.refuse(engine, InvalidText, "load", "people", "name\n1\n,")
        self.assertEqual((error.offset, error.reason), (8, "1 fields are expected"))
        for separator in ("", ",,", "\"", "\n"):
            self.refuse(engine, InvalidOptions, "load", "people", "\"", separator=separator)
        self.refuse(engine, UnknownTable, "load", "nobody", "\"", separator="")

    def test_arguments_are_not_kept(self):
        engine = engine_of()
        row = ["zoe", "Ulm"]
        rows = [row]
        engine.insert("people", rows)
        row[1] = "Bern"
        rows.append(["yan", None])
        engine.rows_of_tables()[1][0].append("more")
        self.assertEqual(engine.rows_of_tables()[1], CITIES + [["zoe", "Ulm"]])
        self.assertEqual(engine.rows_of_tables()[1][0], ["ann", "Rome"])


class Changing(Refusing, unittest.TestCase):
    def ids(self, engine):
        return [row[0] for row in engine.rows_of_tables()[0]]

    def test_remove(self):
        engine = engine_of()
        self.assertEqual(engine.remove("orders", "who = 'ann' or id = 5"), 3)
        self.assertEqual(self.ids(engine), [2, 3])
        self.assertEqual(engine.remove("orders", "who = 'ann'"), 0)
        self.assertEqual(engine.remove("orders", "total > 1.5 and day >= date '2026-02-01'"), 1)
        # A condition that is unknown does not hold.
        self.assertEqual(engine.remove("orders", "paid or not paid"), 0)
        self.assertEqual(engine.remove("orders", "true"), 1)
        self.assertEqual(self.ids(engine), [])

    def test_remove_with_functions(self):
        engine = engine_of()
        engine.define("big(x) = x > 2")
        self.assertEqual(engine.remove("orders", "big(id)"), 3)
        self.refuse(engine, QueryError, "remove", "orders", "$1 = id")

    def test_faults_of_conditions(self):
        engine = engine_of()
        for text, offset, reason in (("id >", 4, "an expression is expected"), ("id", 0, "a condition is expected"),
                                     ("nme = 'x'", 0, "unknown column nme"), ("id = 1 x", 7, "the end is expected"),
                                     ("id = who", 0, "the kinds do not fit"), ("id = $1", 5, "a parameter is not given"),
                                     ("orders.id = 1", 0, "unknown column id")):
            error = self.refuse(engine, QueryError, "remove", "orders", text)
            self.assertEqual((error.offset, error.reason), (offset, reason), text)
            error = self.refuse(engine, QueryError, "update", "orders", [("id", "1")], text)
            self.assertEqual((error.offset, error.reason), (offset, reason), text)
        self.refuse(engine, UnknownTable, "remove", "order", "(")

    def test_update(self):
        engine = engine_of()
        self.assertEqual(engine.update("orders", [("total", "total * 2"), ("who", "upper(who)")], "who = 'ann'"), 2)
        self.assertEqual(engine.query("from orders").rows, [
            [1, "ANN", "2026-01-31", "25", True], [2, "bob", "2026-02-01", "3", False], [3, None, None, None, None],
            [4, "ANN", "2026-02-28", "-0.0002", True], [5, "cid", "2025-12-31", "100", None]])
        # Rows that are changed stand behind the others, in their order.
        self.assertEqual(self.ids(engine), [2, 3, 5, 1, 4])
        self.assertEqual(engine.update("orders", [("id", "id + 10")], "id > 9"), 0)
        self.assertEqual(self.ids(engine), [2, 3, 5, 1, 4])
        self.assertEqual(engine.update("orders", [("id", "id")], "id = 2"), 1)
        self.assertEqual(self.ids(engine), [3, 5, 1, 4, 2])

    def test_values_of_an_update_are_of_the_old_row(self):
        engine = Engine()
        engine.create("t", [("a", "int", True), ("b", "int", True)], 2)
        engine.insert("t", [[1, 2], [3, 4]])
        self.assertEqual(engine.update("t", [("a", "b"), ("b", "a")], "true"), 2)
        self.assertEqual(engine.rows_of_tables(), [[[2, 1], [4, 3]]])
        self.assertEqual(engine.update("t", [("a", "null")], "b = 1"), 1)
        self.assertEqual(engine.rows_of_tables(), [[[4, 3], [None, 1]]])

    def test_kinds_of_values(self):
        engine = engine_of()
        self.assertEqual(engine.update("orders", [("total", "id"), ("day", "date '2026-03-01'"), ("paid", "id > 2")],
                                       "id <= 3"), 3)
        self.assertEqual(engine.query("from orders where id <= 3 select total, day, paid").rows, [
            ["1", "2026-03-01", False], ["2", "2026-03-01", False], ["3", "2026-03-01", True]])
        for column, text in (("id", "1.5"), ("id", "who"), ("day", "1"), ("who", "id"), ("total", "who")):
            error = self.refuse(engine, QueryError, "update", "orders", [(column, text)], "true")
            self.assertEqual((error.offset, error.reason), (0, "the kinds do not fit"))

    def test_values_that_do_not_fit(self):
        engine = engine_of()
        error = self.refuse(engine, InvalidRow, "update", "orders", [("id", "int(who)")], "true")
        self.assertEqual(error.place, 0)
        error = self.refuse(engine, InvalidRow, "update", "orders", [("id", "case when id > 2 then null else id end")],
                            "id <> 2")
        self.assertEqual(error.place, 1)
        self.refuse(engine, InvalidRow, "update", "orders", [("id", "null")], "id = 4")

    def test_columns_of_an_update(self):
        engine = engine_of()
        for changes in ([], [("idd", "1")], [("id", "1"), ("id", "2")], [("who", "("), ("ID", "1")]):
            self.refuse(engine, UnknownColumn, "update", "orders", changes, "(")
        self.refuse(engine, UnknownTable, "update", "order", [], "true")

    def test_the_order_of_faults_of_an_update(self):
        engine = engine_of()
        error = self.refuse(engine, QueryError, "update", "orders", [("id", "1"), ("who", "x1")], "x2")
        self.assertEqual(error.reason, "unknown column x1")
        error = self.refuse(engine, QueryError, "update", "orders", [("who", "who"), ("id", "id")], "x2")
        self.assertEqual(error.reason, "unknown column x2")
        error = self.refuse(engine, QueryError, "update", "orders", [("who", "y1"), ("id", "y2")], "x2")
        self.assertEqual(error.reason, "unknown column y1")


class Layouts(Refusing, unittest.TestCase):
    def test_layout(self):
        engine = engine_of(2)
        engine.remove("orders", "id = 1")
        layout = engine.layout("orders")
        self.assertEqual(list(layout), ["size", "buffer", "groups"])
        self.assertEqual((layout["size"], layout["buffer"], len(layout["groups"])), (2, 1, 2))
        group = layout["groups"][0]
        self.assertEqual(list(group), ["rows", "live", "columns"])
        self.assertEqual((group["rows"], group["live"]), (2, 1))
        self.assertEqual([column[2:] for column in group["columns"]], [
            (0, 1, 2), (0, "ann", "bob"), (0, 20484, 20485), (0, 30000, 125000), (0, False, True)])
        self.assertEqual([column[2:] for column in layout["groups"][1]["columns"]], [
            (0, 3, 4), (1, "ann", "ann"), (1, 20512, 20512), (1, -1, -1), (1, True, True)])
        table = read_table(engine.save("orders"))
        self.assertEqual([column[:2] for column in group["columns"]],
                         [(one.form, column_size(one)) for one in table.groups[0].columns])
        layout["groups"].clear()
        self.assertEqual(len(engine.layout("orders")["groups"]), 2)
        self.refuse(engine, UnknownTable, "layout", "order")

    def test_flush_and_merge(self):
        engine = engine_of(4)
        self.assertIsNone(engine.flush("orders"))
        self.assertEqual([group["rows"] for group in engine.layout("orders")["groups"]], [4, 1])
        self.assertEqual(engine.layout("orders")["buffer"], 0)
        engine.remove("orders", "id < 3")
        self.assertIsNone(engine.merge("orders"))
        self.assertEqual([group["rows"] for group in engine.layout("orders")["groups"]], [3])
        for method in ("flush", "merge", "save"):
            self.refuse(engine, UnknownTable, method, "order")

    def test_cluster(self):
        engine = engine_of(2)
        self.assertIsNone(engine.cluster("orders", [("who", True), ("total", False)]))
        self.assertEqual([row[0] for row in engine.rows_of_tables()[0]], [5, 2, 4, 1, 3])
        self.assertEqual([group["rows"] for group in engine.layout("orders")["groups"]], [2, 2, 1])
        for keys in ([], [("idd", True)], [("id", True), ("id", False)], [("id", True), ("who", False), ("id", True)]):
            self.refuse(engine, UnknownColumn, "cluster", "orders", keys)
        self.refuse(engine, UnknownTable, "cluster", "order", [])

    def test_reencode(self):
        engine = engine_of(2)
        for form in ("plain", "runs", "dictionary", "packed", "deltas"):
            self.assertIsNone(engine.reencode("orders", 1, "id", form))
            self.assertEqual(engine.layout("orders")["groups"][1]["columns"][0][0], form)
        engine.reencode("orders", 1, "who", "constant")
        self.assertEqual(engine.query("from orders").rows, sorted(
            [[row[0], row[1], row[2], str(row[3]) if row[3] is not None else None, row[4]] for row in ROWS]))
        for form in ("constant", "none", ""):
            self.refuse(engine, InvalidEncoding, "reencode", "orders", 1, "id", form)
        self.refuse(engine, InvalidEncoding, "reencode", "orders", 0, "who", "packed")
        for group in (2, 3, -1):
            self.refuse(engine, UnknownGroup, "reencode", "orders", group, "id", "none")
        self.refuse(engine, UnknownColumn, "reencode", "orders", 9, "idd", "none")
        self.refuse(engine, UnknownTable, "reencode", "order", 9, "idd", "none")

    def test_rows_stay(self):
        engine = engine_of(3)
        rows = engine.query("from orders").rows
        for method, arguments in (("flush", ()), ("reencode", (0, "id", "plain")), ("cluster", ([("day", True)],)),
                                  ("merge", ()), ("reencode", (0, "total", "dictionary"))):
            getattr(engine, method)("orders", *arguments)
            self.assertEqual(engine.query("from orders").rows, rows, method)


class Files(Refusing, unittest.TestCase):
    def test_save_and_restore(self):
        engine = engine_of(2)
        engine.remove("orders", "id = 4")
        octets = engine.save("orders")
        self.assertTrue(all(0 <= octet <= 255 for octet in octets))
        self.assertIsNone(engine.restore("copy", octets))
        self.assertEqual(engine.layout("copy"), engine.layout("orders"))
        self.assertEqual(engine.save("copy"), octets)
        self.assertEqual(engine.rows_of_tables()[2], engine.rows_of_tables()[0])
        self.assertEqual(engine.query("from copy").rows, engine.query("from orders").rows)
        octets.clear()
        engine.remove("copy", "true")
        self.assertEqual(len(engine.rows_of_tables()[0]), 4)
        self.assertEqual(engine.names()["tables"], [("orders", 4), ("people", 3), ("copy", 0)])

    def test_into_another_engine(self):
        engine, other = engine_of(2), Engine()
        other.restore("orders", engine.save("orders"))
        self.assertEqual(other.rows_of_tables(), engine.rows_of_tables()[:1])
        other.insert("orders", [[6, None, None, None, None]])
        self.refuse(other, InvalidRow, "insert", "orders", [[None] * 5])

    def test_errors(self):
        engine = engine_of(2)
        octets = engine.save("people")
        engine.name_query("q", "from orders")
        for name in ("", "n" * 41):
            self.refuse(engine, InvalidName, "restore", name, [])
        for wrong in ([], octets[:-1], octets + [0], [256] + octets[1:], octets[:9] + [octets[9] ^ 1] + octets[10:]):
            self.refuse(engine, InvalidFile, "restore", "orders", wrong)
        self.refuse(engine, NameTaken, "restore", "orders", octets)
        self.refuse(engine, NameTaken, "restore", "q", octets)
        for number in range(6):
            engine.restore(f"n{number}", octets)
        self.refuse(engine, NameTaken, "restore", "n1", octets)
        self.refuse(engine, TooMany, "restore", "n6", octets)

    def test_names_of_columns(self):
        self.assertEqual([name for name, _, _ in ORDERS + PEOPLE],
                         engine_of().query("from orders cross join people").names)
        self.assertIn("'tables'", state_of(engine_of()))
