"""Estimates: how many rows the operators of a plan have, and what is known of their columns."""

from stylobate.meaning.operators import worked_up
from stylobate.optimizer.shares import WHOLE, column_at, rounded_up, share_in, unknown_column
from stylobate.optimizer.statistics import Estimate, Known, estimate_of_rows


def share_of(condition, many, columns):
    """Return the share of the rows, so many with these columns, for which a condition holds."""
    return share_in(condition, many, columns)


def _limited(many, columns):
    """Return an estimate in which no column has more Nones or different values than there are rows."""
    found = []
    for known in columns:
        nulls, different = min(known.nulls, many), min(known.different, many)
        found.append(Known(nulls, different, known.first, known.last, known.marks))
    return Estimate(many, found)


def _holding(condition, many, columns):
    """Return for how many of so many rows a condition holds."""
    return rounded_up(many * share_in(condition, many, columns), WHOLE)


def _projected(expressions, below):
    """Return what is known of the values of expressions."""
    found = []
    for expression in expressions:
        if expression[0] == "column":
            found.append(column_at(expression[1], below.columns))
        else:
            found.append(unknown_column(1 if expression[0] == "constant" else below.many))
    return found


def _groups_of(columns, many):
    """Return how many different rows of the values of these columns there are, among so many rows."""
    groups = 1 if many > 0 else 0
    for known in columns:
        groups = min(groups * (known.different + (1 if known.nulls > 0 else 0)), many)
    return groups


def _filter(condition, below):
    return _limited(_holding(condition, below.many, below.columns), below.columns)


def _join(operator, left, right):
    _, kind, _, condition, _, _ = operator
    columns = left.columns + right.columns
    pairs = _holding(condition, left.many * right.many, columns)
    if kind == "inner":
        return _limited(pairs, columns)
    if kind == "left":
        return _limited(max(pairs, left.many), columns)
    some = min(pairs, left.many)
    return _limited(some if kind == "some" else left.many - some, left.columns)


def _group(operator, below):
    _, keys, values, _ = operator
    columns = _projected(keys, below)
    many = _groups_of(columns, below.many) if keys else 1
    return _limited(many, columns + [unknown_column(many) for _ in values])


def _union(left, right):
    many = left.many + right.many
    columns = []
    for first, second in zip(left.columns, right.columns):
        different = min(first.different + second.different, many)
        columns.append(Known(first.nulls + second.nulls, different, None, None, []))
    return Estimate(many, columns)


def _top(operator, below):
    _, _, skip, count, _ = operator
    many = max(below.many - skip, 0)
    return _limited(many if count is None else min(many, count), below.columns)


def table_estimate(number, statistics):
    """Return the estimate of a table; no rows and no columns if there is no such table."""
    if number >= len(statistics):
        return Estimate(0, [])
    return Estimate(statistics[number].many, statistics[number].columns)


def operator_estimate(operator, inputs, statistics):
    """Return the estimate of an operator, for those of its inputs."""
    form = operator[0]
    if form == "table":
        return table_estimate(operator[1], statistics)
    if form == "rows":
        return estimate_of_rows(operator[1], operator[2])
    below = inputs[0]
    if form == "filter":
        return _filter(operator[1], below)
    if form == "project":
        return Estimate(below.many, _projected(operator[1], below))
    if form == "join":
        return _join(operator, below, inputs[1])
    if form == "group":
        return _group(operator, below)
    if form == "distinct":
        return _limited(_groups_of(below.columns, below.many), below.columns)
    if form == "union":
        return _union(below, inputs[1])
    if form == "window":
        return Estimate(below.many, below.columns + [unknown_column(below.many) for _ in operator[3]])
    return _top(operator, below)


def estimate(plan, statistics):
    """Return the estimate of a plan."""
    return worked_up(plan, lambda operator, inputs: operator_estimate(operator, inputs, statistics))
