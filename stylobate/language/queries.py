"""Binding queries: from texts to plans."""

from stylobate.errors import QueryError
from stylobate.language.binding import Visible
from stylobate.language.defined import load_functions
from stylobate.language.reading_queries import read_query
from stylobate.language.relations import Relation, Setting, as_table, check_bounds, kinds_of
from stylobate.language.steps import (
    bind_exists, bind_in, bind_join, bind_let, bind_plain_step, bind_set_step,
)


class Query:
    """A query that was bound: its plan, the columns of its answer, and how that is ordered and cut."""

    def __init__(self, plan, names, kinds, *, order=(), skip=0, limit=None):
        self.plan = plan
        self.names = list(names)
        self.kinds = list(kinds)
        self.order = list(order)
        self.skip = skip
        self.limit = limit


class NamedQueries:
    """The named queries, and the relations of the first ones (None for one that cannot be used)."""

    def __init__(self, queries):
        self.queries = queries
        self.relations = []


def _bind_named(setting, at):
    """Return the relation of the named query at a place, or None if it cannot be used."""
    named = setting.named
    # Those in front are bound first, so that queries in queries never nest deeply.
    while len(named.relations) <= at:
        many = len(named.relations)
        inner = Setting(setting.tables, setting.functions, [], named, many)
        try:
            relation = _bind_query(read_query(named.queries[many][1]), inner)
        except QueryError:
            relation = None
        named.relations.append(relation)
    return named.relations[at]


def _find_relation(name, setting):
    """Return what a name stands for (None if it cannot be used), and whether it is known."""
    for known, relation in reversed(setting.relations):
        if known == name:
            return relation, True
    for at in reversed(range(setting.many)):
        if setting.named.queries[at][0] == name:
            return _bind_named(setting, at), True
    for at, table in enumerate(setting.tables):
        if table[0] == name:
            columns = [Visible(word, (kind, nullable)) for word, kind, nullable in table[1]]
            return Relation(("table", at), columns, 1), True
    return None, False


def _bind_source(source, setting):
    """Return the relation of a source, with its columns as those of its table name."""
    name, query, alias, offset = source
    if query is not None:
        relation = _bind_query(query, setting)
    else:
        relation, known = _find_relation(name, setting)
        if not known:
            raise QueryError(offset, f"unknown table {name}")
        if relation is None:
            raise QueryError(offset, f"this query cannot be used: {name}")
    columns = as_table(relation.columns, name if alias is None else alias)
    return Relation(relation.whole_plan(), columns, relation.operations)


def _bind_step(step, relation, setting):
    """Return the relation behind a step; the query between its brackets is looked at first."""
    form = step[0]
    if form == "join":
        return bind_join(step, relation, _bind_source(step[3], setting), setting)
    if form == "exists":
        return bind_exists(step, relation, _bind_source(step[3], setting), setting)
    if form == "in":
        return bind_in(step, relation, _bind_query(step[4], setting), setting)
    if form == "let":
        return bind_let(step, relation, _bind_query(step[3], setting))
    if form in ("union", "intersect", "except"):
        return bind_set_step(step, relation, _bind_query(step[2], setting))
    return bind_plain_step(step, relation, setting)


def _bind_query(query, setting):
    names, offset, source, steps = query
    for name, inner in names:
        setting = setting.with_relation(name, _bind_query(inner, setting))
    relation = _bind_source(source, setting)
    check_bounds(relation, offset)
    for step in steps:
        relation = _bind_step(step, relation, setting)
        check_bounds(relation, step[1])
    return relation


def _answer_names(columns):
    """Return the names of columns, with that of the table in front where another one has the same."""
    names = [column.name for column in columns]
    found = []
    for column in columns:
        if names.count(column.name) > 1 and column.table is not None:
            found.append(f"{column.table}.{column.name}")
        else:
            found.append(column.name)
    return found


def relation_of(text, catalog):
    """Return the relation of a text, with the order and cut of its last step pending."""
    query = read_query(text)
    functions = load_functions(catalog.functions)
    named = NamedQueries(catalog.queries)
    setting = Setting(catalog.tables, functions, catalog.parameters, named, len(catalog.queries))
    return _bind_query(query, setting)


def bind_query(text, catalog):
    """Return the Query of a text."""
    relation = relation_of(text, catalog)
    keys, skip, count = ((), 0, None) if relation.last is None else relation.last
    kinds = kinds_of(relation.columns)
    names = _answer_names(relation.columns)
    return Query(relation.plan, names, kinds, order=keys, skip=skip, limit=count)
