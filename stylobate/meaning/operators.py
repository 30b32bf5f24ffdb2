"""The operators of plans, physical ones included: what is below them, and which expressions they have."""

# How many inputs an operator has, where it is not one. They stand at its end.
_MANY_INPUTS = {"table": 0, "scan": 0, "rows": 0, "join": 2, "union": 2}


def inputs_in(plan):
    """Return the list of the inputs of the first operator of a plan."""
    many = _MANY_INPUTS.get(plan[0], 1)
    return list(plan[len(plan) - many:])


def with_inputs(operator, inputs):
    """Return an operator over other inputs."""
    return operator[:len(operator) - len(inputs)] + tuple(inputs)


def operators_in(plan):
    """Return all operators, each ahead of its inputs, the left input ahead of the right one."""
    found = []
    waiting = [plan]
    while waiting:
        operator = waiting.pop()
        found.append(operator)
        waiting.extend(inputs_in(operator)[::-1])
    return found


def worked_up(plan, work):
    """Return what `work` makes of a plan: of each operator, and the list of what it made of its inputs.

    The operators are worked one after another, so that deep plans do not make deep calls.
    """
    done = []
    for operator in reversed(operators_in(plan)):
        made = []
        for _ in inputs_in(operator):
            made.append(done.pop())
        done.append(work(operator, made))
    return done.pop()


def _operands_in(values):
    """Return the expressions of the values of groups, or of the functions of windows, that have one."""
    return [value[1] for value in values if value[1] is not None]


def _keys_in(keys):
    return [expression for expression, _ in keys]


def expressions_in(plan):
    """Return the list of the expressions of the first operator of a plan (of part 3)."""
    form = plan[0]
    if form == "filter":
        return [plan[1]]
    if form == "project":
        return list(plan[1])
    if form == "join":
        return [plan[3]]
    if form == "group":
        return list(plan[1]) + _operands_in(plan[2])
    if form == "window":
        return list(plan[1]) + _keys_in(plan[2]) + _operands_in(plan[3])
    if form == "top":
        return _keys_in(plan[1])
    return []


def _with_operands(values, change):
    """Return the values of groups, or the functions of windows, with changed expressions."""
    found = []
    for value in values:
        found.append(value if value[1] is None else (value[0], change(value[1])) + value[2:])
    return tuple(found)


def _with_keys(keys, change):
    return tuple([(change(expression), descending) for expression, descending in keys])


def _with_each(expressions, change):
    return tuple([change(expression) for expression in expressions])


def with_expressions(plan, change):
    """Return the plan with what `change` makes of each expression of its first operator."""
    form = plan[0]
    if form == "filter":
        return (form, change(plan[1]), plan[2])
    if form == "project":
        return (form, _with_each(plan[1], change), plan[2])
    if form == "join":
        return plan[:3] + (change(plan[3]),) + plan[4:]
    if form == "group":
        return (form, _with_each(plan[1], change), _with_operands(plan[2], change), plan[3])
    if form == "window":
        _, parts, keys, functions, below = plan
        parts, keys = _with_each(parts, change), _with_keys(keys, change)
        return (form, parts, keys, _with_operands(functions, change), below)
    if form == "top":
        return (form, _with_keys(plan[1], change)) + plan[2:]
    return plan


def _own_columns(operator, widths):
    """Return how many columns an operator has, or adds to those of its first input, and whether it adds."""
    form = operator[0]
    if form == "table":
        return (widths[operator[1]] if operator[1] < len(widths) else None), False
    if form == "rows":
        return operator[1], False
    if form == "project":
        return len(operator[1]), False
    if form == "group":
        return len(operator[1]) + len(operator[2]), False
    if form == "window":
        return len(operator[3]), True
    if form == "join" and operator[1] in ("inner", "left"):
        return operator[2], True
    return 0, True


def many_columns(plan, widths):
    """Return how many columns a plan has, or None if a table is not there.

    Only what the operators tell is looked at, not whether their expressions and inputs fit.
    """
    many, adds = _own_columns(plan, widths)
    while adds:
        plan = inputs_in(plan)[0]
        more, adds = _own_columns(plan, widths)
        many = None if more is None else many + more
    return many
