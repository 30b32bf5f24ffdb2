"""Rules that look at a join: conditions that go to its sides, projects below it, and the order of joins."""

from stylobate.meaning.operators import many_columns
from stylobate.optimizer.conditions import (
    can_merge, condition_parts, conjunction, is_true, together, uses_only,
)
from stylobate.optimizer.joins import filtered
from stylobate.values.expressions import column_range, columns_of, moved, replaced


def _goes_left(part, kind, m):
    return kind in ("inner", "some") and uses_only(part, 0, m)


def _goes_right(part, kind, m, width):
    if kind == "never" or not columns_of(part):
        return False
    return uses_only(part, m, m + width)


def _condition_to_sides(plan, widths):
    _, kind, width, condition, left, right = plan
    m = many_columns(left, widths)
    if m is None:
        return None
    lefts = []
    rights = []
    others = []
    for part in condition_parts(condition):
        if is_true(part):
            continue
        if _goes_left(part, kind, m):
            lefts.append(part)
        elif _goes_right(part, kind, m, width):
            rights.append(moved(part, -m))
        else:
            others.append(part)
    if not lefts and not rights:
        return None
    return ("join", kind, width, conjunction(others), filtered(left, lefts), filtered(right, rights))


def _project_above(plan, widths):
    _, kind, width, condition, left, right = plan
    if left[0] != "project" or not can_merge(left[1], [condition]):
        return None
    _, expressions, below = left
    m = many_columns(below, widths)
    if m is None:
        return None
    both_sides = expressions + column_range(m, m + width)
    join = ("join", kind, width, replaced(condition, both_sides), below, right)
    return ("project", both_sides if kind in ("inner", "left") else expressions, join)


def _commute(plan, widths):
    _, kind, width, condition, left, right = plan
    m = many_columns(left, widths)
    if kind != "inner" or m is None:
        return None
    places = column_range(width, width + m) + column_range(0, width)
    return ("project", places, ("join", "inner", m, replaced(condition, places), right, left))


def _inner_pair(plan, widths):
    """Return the numbers of columns of the three sides of two "inner" joins, or None."""
    _, kind, width, _, left, _ = plan
    if kind != "inner" or left[0] != "join" or left[1] != "inner":
        return None
    m = many_columns(left[4], widths)
    return None if m is None else (m, left[2], width)


def _associate(plan, widths):
    many = _inner_pair(plan, widths)
    if many is None:
        return None
    m, n, o = many
    _, _, _, outer, (_, _, _, inner, a, b), e = plan
    # A column that is not there must not become one of the third side.
    condition = together(replaced(inner, column_range(0, m + n)), outer)
    return ("join", "inner", n + o, condition, a, ("join", "inner", o, ("constant", True), b, e))


def _exchange(plan, widths):
    many = _inner_pair(plan, widths)
    if many is None:
        return None
    m, n, o = many
    _, _, _, outer, (_, _, _, inner, a, b), e = plan
    places = column_range(0, m) + column_range(m + o, m + o + n) + column_range(m, m + o)
    first = []
    second = [replaced(inner, places[:m + n])]
    for part in condition_parts(outer):
        if any([m <= column < m + n for column in columns_of(part)]):
            second.append(replaced(part, places))
        else:
            first.append(replaced(part, places))
    below = ("join", "inner", o, conjunction(first), a, e)
    return ("project", places, ("join", "inner", n, conjunction(second), below, b))


_RULES = {
    "condition to sides": _condition_to_sides,
    "project above join": _project_above,
    "commute": _commute,
    "associate": _associate,
    "exchange": _exchange,
}


def use_join_rule(rule, plan, widths):
    """Return what a rule makes of a join, or None if it does not apply."""
    if rule not in _RULES:
        return None
    action = _RULES[rule]
    return action(plan, widths)
