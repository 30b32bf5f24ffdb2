"""Rules that look at a filter: what is below it is filtered further down, or together with it."""

from stylobate.meaning.operators import many_columns
from stylobate.optimizer.conditions import (
    can_merge, condition_parts, conjunction, is_true, refuses, together, uses_only,
)
from stylobate.optimizer.joins import filtered
from stylobate.values.expressions import columns_of, replaced


def _drop_filter(plan, widths):
    _, condition, below = plan
    return below if is_true(condition) else None


def _merge_filters(plan, widths):
    _, condition, below = plan
    if below[0] != "filter":
        return None
    return ("filter", together(below[1], condition), below[2])


def _below_project(plan, widths):
    _, condition, below = plan
    if below[0] != "project" or not can_merge(below[1], [condition]):
        return None
    _, expressions, inner = below
    return ("project", expressions, ("filter", replaced(condition, expressions), inner))


def _below_union(plan, widths):
    _, condition, below = plan
    if below[0] != "union":
        return None
    _, left, right = below
    return ("union", ("filter", condition, left), ("filter", condition, right))


def _below_distinct(plan, widths):
    _, condition, below = plan
    return ("distinct", ("filter", condition, below[1])) if below[0] == "distinct" else None


def _split(condition, goes):
    """Return the list of the parts of a condition that go below, and that of the others."""
    going = []
    others = []
    for part in condition_parts(condition):
        if goes(part):
            going.append(part)
        else:
            others.append(part)
    return going, others


def _below_group(plan, widths):
    _, condition, below = plan
    if below[0] != "group" or not below[1]:
        return None
    _, keys, values, inner = below
    going, others = _split(condition, lambda part: uses_only(part, 0, len(keys)))
    if not going or not can_merge(keys, going):
        return None
    below_it = ("filter", replaced(conjunction(going), keys), inner)
    return filtered(("group", keys, values, below_it), others)


def _below_window(plan, widths):
    _, condition, below = plan
    if below[0] != "window":
        return None
    _, parts, keys, functions, inner = below
    many = many_columns(inner, widths)
    if many is None:
        return None
    # From `many` on stand the functions, whatever column of the same number stands among the parts.
    known = {part[1]: True for part in parts if part[0] == "column" and part[1] < many}
    going, others = _split(condition, lambda part: all([column in known for column in columns_of(part)]))
    if not going:
        return None
    return filtered(("window", parts, keys, functions, ("filter", conjunction(going), inner)), others)


def _into_left(condition, join, widths):
    """Return a "left" join whose left side is filtered by the parts that use only columns of it."""
    _, kind, width, on, left, right = join
    many = many_columns(left, widths)
    if many is None:
        return None
    going, others = _split(condition, lambda part: uses_only(part, 0, many))
    if not going:
        return None
    return filtered(("join", kind, width, on, filtered(left, going), right), others)


def _into_join(plan, widths):
    _, condition, below = plan
    if below[0] != "join":
        return None
    _, kind, width, on, left, right = below
    if kind == "inner":
        return ("join", kind, width, together(on, condition), left, right)
    if kind == "left":
        return _into_left(condition, below, widths)
    return ("join", kind, width, on, ("filter", condition, left), right)


def _left_to_inner(plan, widths):
    _, condition, below = plan
    if below[0] != "join" or below[1] != "left":
        return None
    _, _, width, on, left, right = below
    many = many_columns(left, widths)
    if many is None or not refuses(condition, many):
        return None
    return ("filter", condition, ("join", "inner", width, on, left, right))


_RULES = {
    "drop filter": _drop_filter,
    "merge filters": _merge_filters,
    "filter below project": _below_project,
    "filter below union": _below_union,
    "filter below distinct": _below_distinct,
    "filter below group": _below_group,
    "filter below window": _below_window,
    "filter into join": _into_join,
    "left join to inner": _left_to_inner,
}


def use_filter_rule(rule, plan, widths):
    """Return what a rule makes of a filter, or None if it does not apply."""
    if rule not in _RULES:
        return None
    action = _RULES[rule]
    return action(plan, widths)
