"""Rules that look at a project: projects that are put together, and what is below them cut to what they use."""

from stylobate.meaning.operators import many_columns
from stylobate.optimizer.conditions import can_merge
from stylobate.optimizer.single import is_single
from stylobate.values.expressions import column_range, columns_of, replaced

_NONE = ("constant", None)


def _replaced_all(expressions, others):
    """Return the expressions with their columns replaced by the others."""
    return tuple([replaced(expression, others) for expression in expressions])


def _used_in(expressions):
    """Return a dict that has the columns that the expressions use."""
    return {column: True for expression in expressions for column in columns_of(expression)}


def _new_places(many, kept):
    """Return what each of so many columns is replaced by if only some of them are kept."""
    places = [_NONE] * many
    for at, column in enumerate(kept):
        places[column] = ("column", at)
    return places


def _merge_projects(plan, widths):
    _, expressions, below = plan
    if below[0] != "project" or not can_merge(below[1], expressions):
        return None
    return ("project", _replaced_all(expressions, below[1]), below[2])


def _drop_project(plan, widths):
    _, expressions, below = plan
    many = many_columns(below, widths)
    if many is None or expressions != column_range(0, many):
        return None
    return below


def _below_union(plan, widths):
    _, expressions, below = plan
    if below[0] != "union":
        return None
    _, left, right = below
    return ("union", ("project", expressions, left), ("project", expressions, right))


def _kept_behind(many, behind, used):
    """Return the columns of which those from `many` on, so many as there are behind, are kept if they are used."""
    return list(range(many)) + [column for column in range(many, many + behind) if column in used]


def _prune_group(plan, widths):
    _, expressions, below = plan
    if below[0] != "group":
        return None
    _, keys, values, inner = below
    many = len(keys)
    kept = _kept_behind(many, len(values), _used_in(expressions))
    if len(kept) == many + len(values):
        return None
    places = _new_places(many + len(values), kept)
    group = ("group", keys, tuple([values[column - many] for column in kept[many:]]), inner)
    return ("project", _replaced_all(expressions, places), group)


def _prune_window(plan, widths):
    _, expressions, below = plan
    if below[0] != "window":
        return None
    _, parts, keys, functions, inner = below
    many = many_columns(inner, widths)
    if many is None:
        return None
    kept = _kept_behind(many, len(functions), _used_in(expressions))
    if len(kept) == many + len(functions):
        return None
    places = _new_places(many + len(functions), kept)
    if len(kept) > many:
        inner = ("window", parts, keys, tuple([functions[column - many] for column in kept[many:]]), inner)
    return ("project", _replaced_all(expressions, places), inner)


def _cut_side(side, many, kept):
    """Return a side of a join under a project of the columns that are kept; itself if all of them are."""
    if len(kept) == many:
        return side
    return ("project", tuple([("column", column) for column in kept]), side)


def _prune_join(plan, widths):
    _, expressions, below = plan
    if below[0] != "join":
        return None
    _, kind, width, condition, left, right = below
    m = many_columns(left, widths)
    if m is None:
        return None
    used = _used_in(expressions + (condition,))
    lefts = [column for column in range(m) if column in used]
    rights = [column for column in range(width) if m + column in used]
    if len(lefts) == m and len(rights) == width:
        return None
    places = _new_places(m + width, lefts + [m + column for column in rights])
    left = _cut_side(left, m, lefts)
    right = _cut_side(right, width, rights)
    join = ("join", kind, len(rights), replaced(condition, places), left, right)
    return ("project", _replaced_all(expressions, places), join)


def _drop_left_join(plan, widths):
    _, expressions, below = plan
    if below[0] != "join" or below[1] != "left":
        return None
    _, _, _, _, left, right = below
    m = many_columns(left, widths)
    if m is None or not is_single(right):
        return None
    if not all([column < m for column in _used_in(expressions)]):
        return None
    return ("project", expressions, left)


_RULES = {
    "merge projects": _merge_projects,
    "drop project": _drop_project,
    "project below union": _below_union,
    "prune group": _prune_group,
    "prune window": _prune_window,
    "prune join": _prune_join,
    "drop left join": _drop_left_join,
}


def use_project_rule(rule, plan, widths):
    """Return what a rule makes of a project, or None if it does not apply."""
    if rule not in _RULES:
        return None
    action = _RULES[rule]
    return action(plan, widths)
