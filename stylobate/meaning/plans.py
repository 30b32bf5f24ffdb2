"""The rows, the widths and the tables of plans, and the answers of queries."""

from stylobate.meaning.groups import group_rows
from stylobate.meaning.joins import join_rows
from stylobate.meaning.operators import expressions_in, operators_in, worked_up
from stylobate.meaning.order import cut_rows, sorted_rows
from stylobate.meaning.windows import window_rows
from stylobate.values.expressions import columns_of, evaluate_all, holds
from stylobate.values.order import different_rows


def table_rows(number, tables):
    """Return the rows of a table as new lists; none if there is no such table."""
    return [list(row) for row in tables[number]] if number < len(tables) else []


def operator_rows(operator, inputs, tables):
    """Return the rows of an operator for the lists of the rows of its inputs."""
    form = operator[0]
    if form == "table":
        return table_rows(operator[1], tables)
    if form == "rows":
        return [list(row) for row in operator[2]]
    if form == "filter":
        return [row for row in inputs[0] if holds(operator[1], row)]
    if form == "project":
        return [evaluate_all(operator[1], row) for row in inputs[0]]
    if form == "join":
        return join_rows(operator[1], operator[2], operator[3], inputs[0], inputs[1])
    if form == "group":
        return group_rows(operator[1], operator[2], inputs[0])
    if form == "distinct":
        return different_rows(inputs[0])
    if form == "union":
        return inputs[0] + inputs[1]
    if form == "window":
        return window_rows(operator[1], operator[2], operator[3], inputs[0])
    _, keys, skip, count, _ = operator
    return cut_rows(sorted_rows(inputs[0], keys), skip, count)


def rows_of(plan, tables):
    """Return a list of the rows of a plan, as new lists."""
    return worked_up(plan, lambda operator, inputs: operator_rows(operator, inputs, tables))


def _uses_known(operator, many):
    """Tell whether the expressions of an operator use only the first columns."""
    for expression in expressions_in(operator):
        columns = columns_of(expression)
        if columns and columns[-1] >= many:
            return False
    return True


def _leaf_width(operator, widths):
    """Return the width of a table or of rows, or None."""
    if operator[0] == "table":
        return widths[operator[1]] if operator[1] < len(widths) else None
    _, width, rows = operator
    return width if all([len(row) == width for row in rows]) else None


def _result_width(operator, inputs):
    """Return how many columns an operator has, for the widths of its inputs."""
    form = operator[0]
    if form == "project":
        return len(operator[1])
    if form == "join":
        return sum(inputs) if operator[1] in ("inner", "left") else inputs[0]
    if form == "group":
        return len(operator[1]) + len(operator[2])
    if form == "window":
        return inputs[0] + len(operator[3])
    return inputs[0]


def _operator_width(operator, inputs, widths):
    """Return the width of an operator, or None, for the widths of its inputs."""
    form = operator[0]
    if form in ("table", "rows"):
        return _leaf_width(operator, widths)
    if any([width is None for width in inputs]):
        return None
    if form == "union" and inputs[0] != inputs[1]:
        return None
    if form == "join" and inputs[1] != operator[2]:
        return None
    return _result_width(operator, inputs) if _uses_known(operator, sum(inputs)) else None


def width_of(plan, widths):
    """Return how many values each row of a plan has over tables with these widths, or None."""
    return worked_up(plan, lambda operator, inputs: _operator_width(operator, inputs, widths))


def answer_of(query, tables):
    """Return the answer of a query: the rows of its plan in order, and cut."""
    rows = sorted_rows(rows_of(query.plan, tables), query.order)
    return cut_rows(rows, query.skip, query.limit)


def tables_of(plan):
    """Return the ascending list of the indexes of the tables in a plan."""
    found = {}
    for operator in operators_in(plan):
        if operator[0] == "table":
            found[operator[1]] = True
    return sorted(found)
