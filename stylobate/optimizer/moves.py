"""Moves: rules that are used at one of the places of a plan."""

from stylobate.meaning.operators import inputs_in, with_inputs
from stylobate.optimizer.rules import use_rule


def _spots_of(plan):
    """Return all operators, each ahead of its inputs, with the ways that lead to them from the first one.

    A way is a tuple of the numbers of the inputs.
    """
    found = []
    waiting = [(plan, ())]
    while waiting:
        operator, way = waiting.pop()
        found.append((operator, way))
        inputs = [(below, way + (number,)) for number, below in enumerate(inputs_in(operator))]
        waiting.extend(inputs[::-1])
    return found


def _put(plan, way, changed):
    """Return the plan with another one at the end of a way."""
    above = []
    for number in way:
        above.append((plan, number))
        plan = inputs_in(plan)[number]
    for operator, number in reversed(above):
        inputs = inputs_in(operator)
        inputs[number] = changed
        changed = with_inputs(operator, inputs)
    return changed


def places(rule, plan, widths):
    """Return the list of the plans with the rule used at each operator at which it applies."""
    found = []
    for operator, way in _spots_of(plan):
        changed = use_rule(rule, operator, widths)
        if changed is not None:
            found.append(_put(plan, way, changed))
    return found


def moved_plan(move, plan, widths):
    """Return the plan behind a move, or None if the rule applies at too few operators."""
    rule, left = move
    for operator, way in _spots_of(plan):
        changed = use_rule(rule, operator, widths)
        if changed is not None and left == 0:
            return _put(plan, way, changed)
        if changed is not None:
            left -= 1
    return None


def make_move(move, plan, widths):
    """Return the plan behind a move; the plan as it is, if the rule applies at too few operators."""
    changed = moved_plan(move, plan, widths)
    return plan if changed is None else changed


def make_moves(moves, plan, widths):
    """Return the plan behind a list of moves."""
    for move in moves:
        plan = make_move(move, plan, widths)
    return plan
