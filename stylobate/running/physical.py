"""Physical plans: their operators, and the rows that they mean."""

from stylobate.meaning.joins import join_by
from stylobate.meaning.operators import inputs_in, operators_in, worked_up
from stylobate.meaning.plans import operator_rows, table_rows
from stylobate.values.expressions import evaluate, evaluate_all, holds
from stylobate.values.logic import both
from stylobate.values.operations import binary


def inputs_of(plan):
    """Return the list of the inputs of the first operator of a physical plan."""
    return inputs_in(plan)


def operators_of(plan):
    """Return the list of all operators, each ahead of its inputs, the left input ahead of the right one."""
    return operators_in(plan)


def paired_keys(left, right):
    """Return both lists of keys, without those at places that the other list does not have."""
    many = min(len(left), len(right))
    return left[:many], right[:many]


def pair_value(left, right, rest, r, s):
    """Return the value of a pair of rows: that their keys are equal, and that the rest holds."""
    value = True
    for first, second in zip(left, right):
        value = both(value, binary("equal", evaluate(first, r), evaluate(second, s)))
    return both(value, evaluate(rest, list(r) + list(s)))


def _scan_rows(operator, tables):
    _, number, condition, columns = operator
    cut = [("column", column) for column in columns]
    return [evaluate_all(cut, row) for row in table_rows(number, tables) if holds(condition, row)]


def _join_rows(operator, inputs):
    _, _, kind, width, left, right, rest, _, _ = operator
    return join_by(kind, width, lambda r, s: pair_value(left, right, rest, r, s), inputs[0], inputs[1])


def _physical_rows(operator, inputs, tables):
    """Return the rows of an operator for the lists of the rows of its inputs."""
    form = operator[0]
    if form == "scan":
        return _scan_rows(operator, tables)
    if form == "join":
        return _join_rows(operator, inputs)
    if form in ("group", "distinct"):
        # The way does not change the rows, and plans do not tell it.
        operator = (form,) + operator[2:]
    return operator_rows(operator, inputs, tables)


def meaning_of(plan, tables):
    """Return the list of the rows that a physical plan means, for the rows of the tables."""
    return worked_up(plan, lambda operator, inputs: _physical_rows(operator, inputs, tables))
