"""The rules that rewrite plans."""

from stylobate.meaning.operators import expressions_in, operators_in, with_expressions
from stylobate.optimizer.filter_rules import use_filter_rule
from stylobate.optimizer.join_rules import use_join_rule
from stylobate.optimizer.other_rules import use_distinct_rule, use_group_rule, use_top_rule
from stylobate.optimizer.project_rules import use_project_rule
from stylobate.values.expressions import depth_of, folded, same_expression

RULES = (
    "fold", "drop filter", "merge filters", "filter below project", "filter below union",
    "filter below distinct", "filter below group", "filter below window", "filter into join",
    "condition to sides", "left join to inner", "merge projects", "drop project", "project below union",
    "project above join", "prune group", "prune window", "prune join", "commute", "associate", "exchange",
    "distinct twice", "distinct union", "distinct join", "distinct below group", "drop left join",
    "drop top", "top below project", "top below union",
)

_MOST_DEPTH = 150


def _fold(plan):
    if all([same_expression(expression, folded(expression)) for expression in expressions_in(plan)]):
        return None
    return with_expressions(plan, lambda expression: folded(expression))


def _rewritten(rule, plan, widths):
    """Return what a rule makes of a plan, however deep its expressions are, or None."""
    form = plan[0]
    if rule == "fold":
        return _fold(plan)
    if form == "filter":
        return use_filter_rule(rule, plan, widths)
    if form == "project":
        return use_project_rule(rule, plan, widths)
    if form == "join":
        return use_join_rule(rule, plan, widths)
    if form == "distinct":
        return use_distinct_rule(rule, plan, widths)
    if form == "group":
        return use_group_rule(rule, plan, widths)
    return use_top_rule(rule, plan, widths) if form == "top" else None


def _is_too_deep(plan):
    for operator in operators_in(plan):
        if any([depth_of(expression) > _MOST_DEPTH for expression in expressions_in(operator)]):
            return True
    return False


def use_rule(rule, plan, widths):
    """Return the plan with the rule used at its first operator, or None if it does not apply there."""
    changed = _rewritten(rule, plan, widths)
    return None if changed is None or _is_too_deep(changed) else changed
