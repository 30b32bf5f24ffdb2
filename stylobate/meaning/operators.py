"""The operators of plans, physical ones included: what is below them, and which expressions they have."""

# How many inputs an operator has, where it is not one. They stand at its end.
_MANY_INPUTS = {"table": 0, "scan": 0, "rows": 0, "join": 2, "union": 2}


def inputs_in(plan):
    """Return the list of the inputs of the first operator of a plan."""
    many = _MANY_INPUTS.get(plan[0], 1)
    return list(plan[len(plan) - many:])


def operators_in(plan):
    """Return all operators, each ahead of its inputs, the left input ahead of the right one."""
    found = []
    waiting = [plan]
    while waiting:
        operator = waiting.pop()
        found.append(operator)
        waiting.extend(inputs_in(operator)[::-1])
    return found


def worked_up(plan, work):
    """Return what `work` makes of a plan: of each operator, and the list of what it made of its inputs.

    The operators are worked one after another, so that deep plans do not make deep calls.
    """
    done = []
    for operator in reversed(operators_in(plan)):
        made = []
        for _ in inputs_in(operator):
            made.append(done.pop())
        done.append(work(operator, made))
    return done.pop()


def _operands_in(values):
    """Return the expressions of the values of groups, or of the functions of windows, that have one."""
    return [value[1] for value in values if value[1] is not None]


def _keys_in(keys):
    return [expression for expression, _ in keys]


def expressions_in(plan):
    """Return the list of the expressions of the first operator of a plan (of part 3)."""
    form = plan[0]
    if form == "filter":
        return [plan[1]]
    if form == "project":
        return list(plan[1])
    if form == "join":
        return [plan[3]]
    if form == "group":
        return list(plan[1]) + _operands_in(plan[2])
    if form == "window":
        return list(plan[1]) + _keys_in(plan[2]) + _operands_in(plan[3])
    if form == "top":
        return _keys_in(plan[1])
    return []
