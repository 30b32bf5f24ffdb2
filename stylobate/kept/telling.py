"""What the operators of a kept answer tell: their own changes, for those of their inputs."""

from stylobate.kept.changes import Change
from stylobate.meaning.groups import group_rows
from stylobate.meaning.joins import join_rows
from stylobate.meaning.plans import operator_rows
from stylobate.meaning.windows import window_rows
from stylobate.values.expressions import evaluate, evaluate_all
from stylobate.values.order import different_rows, row_rank


class State:
    """The rows of an operator before a change and behind it, and the change."""

    def __init__(self, old, new, change):
        self.old = old
        self.new = new
        self.change = change


def _ranks_of(expressions, rows):
    """Return a dict that has the ranks of the values of expressions in rows."""
    return {row_rank(evaluate_all(expressions, row)): True for row in rows}


def _with_ranks(expressions, rows, ranks):
    """Return the rows in which the values of expressions have one of these ranks."""
    return [row for row in rows if row_rank(evaluate_all(expressions, row)) in ranks]


def _inner_join(operator, left, right):
    """Return the change of the left side beside the new right one, and of the right beside the old left one."""
    _, kind, width, condition, _, _ = operator
    gone = join_rows(kind, width, condition, left.change.gone, right.new)
    gone.extend(join_rows(kind, width, condition, left.old, right.change.gone))
    come = join_rows(kind, width, condition, left.change.come, right.new)
    come.extend(join_rows(kind, width, condition, left.old, right.change.come))
    return Change(gone, come)


def _matters(operator, row, others):
    """Tell whether one of some rows of the right side matters to a row of the left one."""
    _, kind, _, condition, _, _ = operator
    for other in others:
        value = evaluate(condition, list(row) + list(other))
        if value is True or (kind == "never" and value is not False):
            return True
    return False


def _other_join(operator, left, right):
    """Return the change of the left side beside the new right one, and what old rows of the left give anew."""
    _, kind, width, condition, _, _ = operator
    changed = right.change.gone + right.change.come
    again = [row for row in left.old if _matters(operator, row, changed)]
    gone = join_rows(kind, width, condition, left.change.gone, right.new)
    gone.extend(join_rows(kind, width, condition, again, right.old))
    come = join_rows(kind, width, condition, left.change.come, right.new)
    come.extend(join_rows(kind, width, condition, again, right.new))
    return Change(gone, come)


def _join(operator, left, right):
    return _inner_join(operator, left, right) if operator[1] == "inner" else _other_join(operator, left, right)


def _group(operator, below):
    _, keys, values, _ = operator
    ranks = _ranks_of(keys, below.change.gone + below.change.come)
    gone = group_rows(keys, values, _with_ranks(keys, below.old, ranks))
    return Change(gone, group_rows(keys, values, _with_ranks(keys, below.new, ranks)))


def _distinct(below):
    """Return which rows are no longer there, and which were not there before."""
    new = {row_rank(row): True for row in below.new}
    old = {row_rank(row): True for row in below.old}
    gone = [row for row in different_rows(below.change.gone) if row_rank(row) not in new]
    return Change(gone, [row for row in different_rows(below.change.come) if row_rank(row) not in old])


def _window(operator, below):
    _, parts, keys, functions, _ = operator
    ranks = _ranks_of(parts, below.change.gone + below.change.come)
    gone = window_rows(parts, keys, functions, _with_ranks(parts, below.old, ranks))
    return Change(gone, window_rows(parts, keys, functions, _with_ranks(parts, below.new, ranks)))


def _of_both(operator, change):
    """Return the change whose rows an operator gives for the rows that go, and for those that come."""
    gone = operator_rows(operator, [change.gone], [])
    return Change(gone, operator_rows(operator, [change.come], []))


def _told(operator, inputs, old):
    """Return what an operator tells that is made small, for the states of its inputs, of which one changed."""
    form = operator[0]
    below = inputs[0]
    if form == "project":
        return _of_both(operator, below.change)
    if form == "union":
        other = inputs[1].change
        return Change(below.change.gone + other.gone, below.change.come + other.come)
    if form == "join":
        return _join(operator, below, inputs[1])
    if form == "group":
        return _group(operator, below)
    if form == "distinct":
        return _distinct(below)
    if form == "window":
        return _window(operator, below)
    return Change(old, operator_rows(operator, [below.new], []))


def change_of(operator, inputs, old, changes):
    """Return the change of an operator, for the states of its inputs, its old rows, and the changes of tables."""
    if operator[0] == "table":
        change = changes.get(operator[1])
        return Change([], []) if change is None else Change(change.gone, change.come)
    if all([below.change.nothing for below in inputs]):
        return Change([], [])
    if operator[0] == "filter":
        return _of_both(operator, inputs[0].change)
    return _told(operator, inputs, old).small()
