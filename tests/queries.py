"""Helpers for tests of the query language."""

from stylobate.errors import QueryError
from stylobate.language.catalog import Catalog
from stylobate.language.printing import format_function, format_query
from stylobate.language.queries import bind_query

TABLES = [
    ("t", [("a", "int", False), ("b", "text", True), ("c", "decimal", False), ("d", "date", True),
           ("e", "bool", False)]),
    ("u", [("a", "int", True), ("x", "text", False)]),
    ("v", [("n", "int", False)]),
]
CATALOG = Catalog(TABLES)


def place_of(marked):
    """Return a text without the sign ^, and the offset where that stood."""
    return marked.replace("^", ""), marked.index("^")


def fault_of(action, *arguments):
    """Return the offset and the reason of the fault that a call raises, or None."""
    try:
        action(*arguments)
    except QueryError as fault:
        return (fault.offset, fault.reason)
    return None


def syntax_fault(text):
    return fault_of(format_query, text)


def function_fault(text):
    return fault_of(format_function, text)


def query_fault(text, catalog=CATALOG):
    return fault_of(bind_query, text, catalog)


def plan_of(text, catalog=CATALOG):
    return bind_query(text, catalog).plan
