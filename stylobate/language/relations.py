"""Queries that were bound so far: their plans and columns."""

from stylobate.errors import QueryError
from stylobate.language.binding import Scope, Visible

_MOST_OPERATIONS = 100
_MOST_COLUMNS = 60


class Relation:
    """A plan, its columns, the number of its operators, and the order and cut that are still pending.

    `last` is None, or a tuple (keys, skip, count) if the last step orders or cuts: it is no part of the
    plan, but counts as an operator.
    """

    def __init__(self, plan, columns, operations, last=None):
        self.plan = plan
        self.columns = columns
        self.operations = operations
        self.last = last

    def whole_plan(self):
        """Return the plan with the pending order and cut."""
        if self.last is None:
            return self.plan
        keys, skip, count = self.last
        return ("top", keys, skip, count, self.plan)


class Setting:
    """What a query can name: tables, functions, parameters, and the relations of with.

    Of the named queries, `named`, only the first `many` are seen.
    """

    def __init__(self, tables, functions, parameters, named, many, relations=()):
        self.tables = tables
        self.functions = functions
        self.parameters = parameters
        self.named = named
        self.many = many
        self.relations = relations

    def with_relation(self, name, relation):
        """Return the setting in which the name stands for the relation, too."""
        relations = self.relations + ((name, relation),)
        return Setting(self.tables, self.functions, self.parameters, self.named, self.many, relations)

    def scope_of(self, columns):
        """Return what an expression on these columns can name."""
        return Scope(columns, self.parameters, self.functions)


def as_table(columns, table):
    """Return the columns as those of a table with this name."""
    return [Visible(column.name, column.kind, table) for column in columns]


def as_nullable(columns):
    """Return the columns, all of them nullable."""
    return [Visible(column.name, (column.kind[0], True), column.table) for column in columns]


def kinds_of(columns):
    """Return the list of the names of the kinds of the columns."""
    return [column.kind[0] for column in columns]


def check_bounds(relation, offset):
    """Raise a fault if a query that is read so far has too many operations or columns."""
    if relation.operations > _MOST_OPERATIONS:
        raise QueryError(offset, "the query is too large")
    if len(relation.columns) > _MOST_COLUMNS:
        raise QueryError(offset, "there are too many columns")
