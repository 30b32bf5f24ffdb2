"""Rules that look at distinct, at a group or at a top."""

from stylobate.meaning.operators import many_columns
from stylobate.optimizer.conditions import can_merge, uses_only
from stylobate.values.expressions import replaced

# Values of groups that are the same whether a row is there once or several times.
_OF_DIFFERENT = ("distinct", "min", "max", "every", "some")


def _distinct_twice(plan, widths):
    below = plan[1]
    return below if below[0] in ("distinct", "group") else None


def _distinct_union(plan, widths):
    below = plan[1]
    if below[0] != "union":
        return None
    _, left, right = below
    if left[0] == "distinct":
        return ("distinct", ("union", left[1], right))
    if right[0] == "distinct":
        return ("distinct", ("union", left, right[1]))
    return None


def _distinct_join(plan, widths):
    project = plan[1]
    if project[0] != "project" or project[2][0] != "join" or project[2][1] != "inner":
        return None
    _, expressions, (_, _, width, condition, left, right) = project
    m = many_columns(left, widths)
    if m is None or not all([uses_only(expression, 0, m) for expression in expressions]):
        return None
    return ("distinct", ("project", expressions, ("join", "some", width, condition, left, right)))


def _distinct_below_group(plan, widths):
    _, keys, values, below = plan
    if below[0] != "distinct" or not all([name in _OF_DIFFERENT for name, _ in values]):
        return None
    return ("group", keys, values, below[1])


def _drop_top(plan, widths):
    _, _, skip, count, below = plan
    return below if skip == 0 and count is None else None


def _top_below_project(plan, widths):
    _, keys, skip, count, below = plan
    if below[0] != "project" or not can_merge(below[1], [expression for expression, _ in keys]):
        return None
    _, expressions, inner = below
    order = [(replaced(expression, expressions), descending) for expression, descending in keys]
    # Peers are in the order of the rows that the project gives, not of those that it takes.
    order.extend([(expression, False) for expression in expressions])
    return ("project", expressions, ("top", tuple(order), skip, count, inner))


def _top_of_side(plan, keys, many):
    return plan if plan[0] == "top" else ("top", keys, 0, many, plan)


def _top_below_union(plan, widths):
    _, keys, skip, count, below = plan
    if count is None or below[0] != "union":
        return None
    _, left, right = below
    if left[0] == "top" and right[0] == "top":
        return None
    sides = (_top_of_side(left, keys, skip + count), _top_of_side(right, keys, skip + count))
    return ("top", keys, skip, count, ("union",) + sides)


# By the form of the operator that a rule looks at.
_DISTINCT_RULES = {
    "distinct twice": _distinct_twice,
    "distinct union": _distinct_union,
    "distinct join": _distinct_join,
}
_GROUP_RULES = {"distinct below group": _distinct_below_group}
_TOP_RULES = {
    "drop top": _drop_top,
    "top below project": _top_below_project,
    "top below union": _top_below_union,
}


def use_distinct_rule(rule, plan, widths):
    """Return what a rule makes of a distinct, or None if it does not apply."""
    if rule not in _DISTINCT_RULES:
        return None
    action = _DISTINCT_RULES[rule]
    return action(plan, widths)


def use_group_rule(rule, plan, widths):
    """Return what a rule makes of a group, or None if it does not apply."""
    if rule not in _GROUP_RULES:
        return None
    action = _GROUP_RULES[rule]
    return action(plan, widths)


def use_top_rule(rule, plan, widths):
    """Return what a rule makes of a top, or None if it does not apply."""
    if rule not in _TOP_RULES:
        return None
    action = _TOP_RULES[rule]
    return action(plan, widths)
