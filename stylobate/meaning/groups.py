"""Rows that fall into groups."""

from stylobate.meaning.aggregates import aggregate
from stylobate.values.expressions import evaluate_all
from stylobate.values.order import row_rank


def rows_by_values(expressions, rows):
    """Return the list of the groups by the values of expressions, in the order of their first rows.

    A group is a tuple of the list of its values and the list of its rows.
    """
    groups = {}
    for row in rows:
        values = evaluate_all(expressions, row)
        groups.setdefault(row_rank(values), (values, []))[1].append(row)
    return list(groups.values())


def group_rows(keys, values, rows):
    """Return one row for each group: the values of its keys, then the values over its rows."""
    groups = rows_by_values(keys, rows) if keys else [([], rows)]
    found = []
    for told, members in groups:
        found.append(told + [aggregate(value, members) for value in values])
    return found
