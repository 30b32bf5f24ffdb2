"""Kept answers, named queries and functions."""

from stylobate.engine.asking import told_answer
from stylobate.engine.checking import check_name
from stylobate.engine.store import Kept, Text
from stylobate.errors import NameTaken, TooMany, UnknownAnswer, UnknownName
from stylobate.language.functions import check_function
from stylobate.language.printing import format_function, format_query
from stylobate.language.queries import bind_query

_MOST_ANSWERS = 8
_MOST_QUERIES = 20
_MOST_FUNCTIONS = 8
_NOT_COUNTED = (0, 0, 0, 0)


def keep_answer(store, name, text):
    """Keep the answer of a query under a name."""
    check_name(name)
    bound = bind_query(text, store.catalog())
    if name in store.answers:
        raise NameTaken(f"the name is in use: {name}")
    if len(store.answers) >= _MOST_ANSWERS:
        raise TooMany("there are too many kept answers")
    store.answers[name] = Kept(bound, store.keeper_of(bound.plan))


def _kept_answer(store, name):
    if name not in store.answers:
        raise UnknownAnswer(f"there is no kept answer {name}")
    return store.answers[name]


def kept_answer(store, name):
    """Return a kept answer over the present rows."""
    kept = _kept_answer(store, name)
    return told_answer(kept.bound, kept.keeper.held(), _NOT_COUNTED)


def forget_answer(store, name):
    """Remove a kept answer."""
    _kept_answer(store, name)
    del store.answers[name]


def put_query(store, name, text):
    """Give a name to a query, or to another one in its place."""
    check_name(name)
    known = [query.name for query in store.queries]
    at = known.index(name) if name in known else len(known)
    catalog = store.catalog()
    # The query itself, and those that were named after it, cannot be used in it.
    bind_query(text, catalog.with_queries(catalog.queries[:at]))
    if store.has_table(name):
        raise NameTaken(f"a table has the name {name}")
    if at >= _MOST_QUERIES:
        raise TooMany("there are too many named queries")
    # The text as it is written can be longer than a text that is read, so that is kept, too.
    store.queries[at:at + 1] = [Text(name, text, format_query(text))]


def put_function(store, text):
    """Add a function; return its name."""
    name = check_function(text, store.catalog())
    if len(store.functions) >= _MOST_FUNCTIONS:
        raise TooMany("there are too many functions")
    store.functions.append(Text(name, text, format_function(text)))
    return name


def take_name(store, name):
    """Remove the named query and the function with a name."""
    queries = [query for query in store.queries if query.name != name]
    functions = [function for function in store.functions if function.name != name]
    if len(queries) == len(store.queries) and len(functions) == len(store.functions):
        raise UnknownName(f"there is no named query and no function {name}")
    store.queries = queries
    store.functions = functions


def all_names(store):
    """Return a dict of the names of everything that an engine has."""
    present = [slot for slot in store.slots if slot.name is not None]
    return {
        "tables": [(slot.name, slot.table.live) for slot in present],
        "kept": list(store.answers),
        "queries": [(query.name, query.written) for query in store.queries],
        "functions": [function.written for function in store.functions],
    }
