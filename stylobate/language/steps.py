"""Binding steps: what each of them makes of the relation in front of it."""

from stylobate.errors import QueryError
from stylobate.language.binding import Visible, bind_truth, bind_whole
from stylobate.language.grouping import bind_group
from stylobate.language.items import bind_function, bind_items, bind_keys, check_name
from stylobate.language.relations import Relation, as_nullable, kinds_of
from stylobate.values.expressions import column_range, replaced

_TRUE = ("constant", True)


def _check_tables(relation, other, offset):
    """Raise a fault if columns on both sides belong to tables of one name."""
    left = [column.table for column in relation.columns]
    for column in other.columns:
        if column.table in left:
            raise QueryError(offset, f"two tables go by the name {column.table}")


def _full_join_plan(relation, other, condition):
    left, right = relation.whole_plan(), other.whole_plan()
    m, w = len(relation.columns), len(other.columns)
    turned = replaced(condition, column_range(w, w + m) + column_range(0, w))
    items = (("constant", None),) * m + column_range(0, w)
    alone = ("project", items, ("join", "none", m, turned, right, left))
    return ("union", ("join", "left", w, condition, left, right), alone)


def bind_join(step, relation, other, setting):
    """Return the relation behind a join with another one."""
    _, offset, kind, _, code = step
    _check_tables(relation, other, offset)
    left, right = relation.columns, other.columns
    condition = _TRUE
    if code is not None:
        condition = bind_truth(code, setting.scope_of(left + right), offset)
    operations = relation.operations + other.operations + 1
    if kind == "full":
        plan = _full_join_plan(relation, other, condition)
        return Relation(plan, as_nullable(left + right), 2 * operations + 2)
    if kind == "left":
        right = as_nullable(right)
    told = "left" if kind == "left" else "inner"
    plan = ("join", told, len(right), condition, relation.whole_plan(), other.whole_plan())
    return Relation(plan, left + right, operations)


def bind_exists(step, relation, other, setting):
    """Return the relation behind a where with exists."""
    _, offset, negated, _, code = step
    _check_tables(relation, other, offset)
    scope = setting.scope_of(relation.columns + other.columns)
    condition = bind_truth(code, scope, offset)
    kind = "none" if negated else "some"
    plan = ("join", kind, len(other.columns), condition, relation.whole_plan(), other.whole_plan())
    return Relation(plan, relation.columns, relation.operations + other.operations + 1)


def _all_alike(name, expressions):
    """Return the condition that each expression is alike the column of the right side at its place.

    `expressions` is a list of pairs of an expression and the number of the column.
    """
    parts = [("binary", name, expression, ("column", number)) for expression, number in expressions]
    condition = parts[-1]
    for part in reversed(parts[:-1]):
        condition = ("binary", "and", part, condition)
    return condition


def _check_columns(kinds, other, offset):
    if kinds != kinds_of(other.columns):
        raise QueryError(offset, "the columns do not fit")


def bind_in(step, relation, other, setting):
    """Return the relation behind a where with in."""
    _, offset, negated, codes, _ = step
    scope = setting.scope_of(relation.columns)
    parts = [bind_whole(code, scope, offset) for code in codes]
    _check_columns([part.kind[0] for part in parts], other, offset)
    first = len(relation.columns)
    condition = _all_alike("equal", [(part.expression, first + at) for at, part in enumerate(parts)])
    kind = "never" if negated else "some"
    plan = ("join", kind, len(parts), condition, relation.whole_plan(), other.whole_plan())
    return Relation(plan, relation.columns, relation.operations + other.operations + 1)


def bind_let(step, relation, other):
    """Return the relation behind a let."""
    _, offset, name, _ = step
    if len(other.columns) != 1:
        raise QueryError(offset, "one column is expected")
    check_name(name, {column.name: True for column in relation.columns}, offset)
    operations = relation.operations + other.operations + 1
    if other.last is None:
        keys, skip, count = (), 0, 1
        operations += 1
    else:
        keys, skip, count = other.last
        count = 0 if count == 0 else 1
    first = ("top", keys, skip, count, other.plan)
    plan = ("join", "left", 1, _TRUE, relation.whole_plan(), first)
    column = Visible(name, (other.columns[0].kind[0], True))
    return Relation(plan, relation.columns + [column], operations)


def bind_set_step(step, relation, other):
    """Return the relation behind union, intersect or except."""
    form, offset, _ = step
    columns = relation.columns
    _check_columns(kinds_of(columns), other, offset)
    left, right = relation.whole_plan(), other.whole_plan()
    operations = relation.operations + other.operations
    if form == "union":
        united = []
        for one, two in zip(columns, other.columns):
            united.append(Visible(one.name, (one.kind[0], one.kind[1] or two.kind[1]), one.table))
        return Relation(("union", left, right), united, operations + 1)
    width = len(columns)
    condition = _all_alike("same", [(("column", at), width + at) for at in range(width)])
    kind = "some" if form == "intersect" else "none"
    plan = ("distinct", ("join", kind, width, condition, left, right))
    return Relation(plan, columns, operations + 2)


def _bind_select(step, relation, setting):
    expressions, columns = bind_items(step[2], setting.scope_of(relation.columns), {})
    return Relation(("project", expressions, relation.whole_plan()), columns, relation.operations + 1)


def _bind_extend(step, relation, setting):
    taken = {column.name: True for column in relation.columns}
    expressions, columns = bind_items(step[2], setting.scope_of(relation.columns), taken)
    kept = column_range(0, len(relation.columns))
    plan = ("project", kept + expressions, relation.whole_plan())
    return Relation(plan, relation.columns + columns, relation.operations + 1)


def _bind_window(step, relation, setting):
    _, offset, codes, keys, functions = step
    scope = setting.scope_of(relation.columns)
    parts = tuple([bind_whole(code, scope, offset).expression for code in codes])
    order = bind_keys(keys, scope)
    taken = {column.name: True for column in relation.columns}
    told = []
    columns = []
    for function in functions:
        value, column = bind_function(function, scope)
        check_name(column.name, taken, function[5])
        told.append(value)
        columns.append(column)
    plan = ("window", parts, order, tuple(told), relation.whole_plan())
    return Relation(plan, relation.columns + columns, relation.operations + 1)


def _bind_order(step, relation, setting):
    _, _, keys, limit, skip = step
    order = bind_keys(keys, setting.scope_of(relation.columns))
    last = (order, 0 if skip is None else skip, limit)
    return Relation(relation.whole_plan(), relation.columns, relation.operations + 1, last)


def bind_plain_step(step, relation, setting):
    """Return the relation behind a step that has no other relation."""
    form = step[0]
    if form == "where":
        condition = bind_truth(step[2], setting.scope_of(relation.columns), step[1])
        plan = ("filter", condition, relation.whole_plan())
        return Relation(plan, relation.columns, relation.operations + 1)
    if form == "distinct":
        return Relation(("distinct", relation.whole_plan()), relation.columns, relation.operations + 1)
    if form == "select":
        return _bind_select(step, relation, setting)
    if form == "extend":
        return _bind_extend(step, relation, setting)
    if form == "group":
        return bind_group(step, relation, setting)
    if form == "window":
        return _bind_window(step, relation, setting)
    return _bind_order(step, relation, setting)
