"""Binding conditions of tables and values of columns."""

from stylobate.errors import QueryError
from stylobate.language.binding import KINDS_FAULT, Scope, Visible, bind_code, bind_truth
from stylobate.language.defined import load_functions
from stylobate.language.meanings import to_decimal
from stylobate.language.parts import kind_name
from stylobate.language.reading_functions import read_alone


def _table_scope(catalog, columns):
    """Return what an expression on the columns of a table can name: the columns by their own names."""
    visible = [Visible(name, (kind, nullable)) for name, kind, nullable in columns]
    return Scope(visible, catalog.parameters, load_functions(catalog.functions))


def bind_condition(text, catalog, columns):
    """Return the expression of a condition on a table with these columns."""
    code = read_alone(text)
    return bind_truth(code, _table_scope(catalog, columns), 0)


def bind_value(text, kind, catalog, columns):
    """Return the expression of a value of this kind."""
    code = read_alone(text)
    part = bind_code(code, _table_scope(catalog, columns), 0)
    if kind == "decimal" and kind_name(part) == "int":
        part = to_decimal(part)
    if part.kind is not None and kind_name(part) != kind:
        raise QueryError(0, KINDS_FAULT)
    return part.expression
