"""Helpers for tests of the engine."""

from stylobate.engine.engine import Engine

ORDERS = [("id", "int", False), ("who", "text", True), ("day", "date", True), ("total", "decimal", True),
          ("paid", "bool", True)]
ROWS = [
    [1, "ann", "2026-01-31", "12.5", True], [2, "bob", "2026-02-01", 3, False], [3, None, None, None, None],
    [4, "ann", "2026-02-28", "-0.0001", True], [5, "cid", "2025-12-31", "100", None],
]
PEOPLE = [("name", "text", False), ("city", "text", True)]
CITIES = [["ann", "Rome"], ["bob", "Oslo"], ["dan", None]]


def engine_of(size=2):
    """An engine with orders and people."""
    engine = Engine()
    engine.create("orders", ORDERS, size)
    engine.create("people", PEOPLE, size)
    engine.insert("orders", ROWS)
    engine.insert("people", CITIES)
    return engine


def state_of(engine):
    """Everything that an engine tells without being asked for a query."""
    names = engine.names()
    return repr([names, engine.rows_of_tables(), [engine.layout(name) for name, _ in names["tables"]],
                 [engine.save(name) for name, _ in names["tables"]],
                 [(name, engine.kept(name).names, engine.kept(name).rows) for name in names["kept"]],
                 engine.open_transactions])


class Refusing:
    """Checks that calls raise errors, and change nothing."""

    def refuse(self, engine, error, method, *arguments, **options):
        before = state_of(engine)
        with self.assertRaises(error) as caught:
            getattr(engine, method)(*arguments, **options)
        self.assertIs(type(caught.exception), error, arguments)
        self.assertEqual(state_of(engine), before)
        return caught.exception
