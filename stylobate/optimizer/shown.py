"""Expressions, plans, physical plans and moves as texts."""

from stylobate.meaning.operators import inputs_in
from stylobate.optimizer.conditions import is_true
from stylobate.running.physical import paired_keys
from stylobate.values.expressions import parts_of

_SIGNS = {
    "equal": "=", "less": "<", "at most": "<=", "add": "+", "subtract": "-", "multiply": "*", "divide": "/",
    "rest": "mod", "join": "||", "coalesce": "else", "multiply decimals": ".*", "divide decimals": "./",
    "same": "is", "position": "position in", "add months": "+ months", "add days": "+ days",
}
_BLANKS = "  "


def _shown_value(value):
    if value is None:
        return "null"
    if isinstance(value, bool):
        return "true" if value else "false"
    if isinstance(value, int):
        return str(value)
    return "'" + value.replace("'", "''") + "'"


def _call(name, arguments):
    return name + "(" + ", ".join(arguments) + ")"


def shown_expression(expression):
    """Return the text of an expression."""
    form = expression[0]
    if form == "constant":
        return _shown_value(expression[1])
    if form == "column":
        return f"${expression[1]}"
    parts = []
    for part in parts_of(expression):
        parts.append(shown_expression(part))
    if form == "choice":
        return _call("if", parts)
    name = expression[1]
    if form == "binary":
        return f"({parts[0]} {_SIGNS.get(name, name)} {parts[1]})"
    return _call(name, parts)


def _in_brackets(texts):
    return "[" + ", ".join(texts) + "]"


def shown_list(expressions):
    """Return the text of a list of expressions."""
    return _in_brackets([shown_expression(expression) for expression in expressions])


def _shown_keys(keys):
    texts = []
    for expression, descending in keys:
        texts.append(shown_expression(expression) + (" down" if descending else ""))
    return _in_brackets(texts)


def _shown_values(values):
    texts = []
    for name, expression in values:
        texts.append(_call(name, [] if expression is None else [shown_expression(expression)]))
    return _in_brackets(texts)


def _shown_function(function):
    name, expression, frame, number = function
    arguments = [] if expression is None else [shown_expression(expression)]
    if name in ("tile", "before", "after"):
        arguments.append(str(number))
    text = _call(name, arguments)
    return text if frame is None else f"{text} from {frame[0]} to {frame[1]}"


def _shown_functions(functions):
    return _in_brackets([_shown_function(function) for function in functions])


def _line_of_both(plan):
    """Return the line of an operator that is the same in plans and in physical plans."""
    form = plan[0]
    if form == "rows":
        return f"rows {len(plan[2])} of {plan[1]}"
    if form == "filter":
        return f"filter {shown_expression(plan[1])}"
    if form == "project":
        return f"project {shown_list(plan[1])}"
    if form == "window":
        _, parts, order, functions, _ = plan
        return f"window by {shown_list(parts)} order {_shown_keys(order)} of {_shown_functions(functions)}"
    if form == "top":
        _, keys, skip, count, _ = plan
        text = f"top order {_shown_keys(keys)} skip {skip}"
        return text if count is None else f"{text} count {count}"
    return "union"


def _plan_line(plan, names):
    """Return the line of the first operator of a plan."""
    form = plan[0]
    if form == "table":
        return f"table {names[plan[1]]}"
    if form == "join":
        return f"join {plan[1]} on {shown_expression(plan[3])}"
    if form == "group":
        return f"group by {shown_list(plan[1])} of {_shown_values(plan[2])}"
    return "distinct" if form == "distinct" else _line_of_both(plan)


def _scan_line(plan, names):
    _, number, condition, columns = plan
    numbers = _in_brackets([str(column) for column in columns])
    text = f"scan {names[number]} columns {numbers}"
    return text if is_true(condition) else f"{text} where {shown_expression(condition)}"


def _join_line(plan):
    _, way, kind, _, left, right, rest, _, _ = plan
    left, right = paired_keys(left, right)
    text = f"join {kind} by {way}"
    if left:
        text = f"{text} keys {shown_list(left)} and {shown_list(right)}"
    return text if is_true(rest) else f"{text} on {shown_expression(rest)}"


def shown_line(plan, names):
    """Return the line of the first operator of a physical plan."""
    form = plan[0]
    if form == "scan":
        return _scan_line(plan, names)
    if form == "join":
        return _join_line(plan)
    if form == "group":
        _, way, keys, values, _ = plan
        return f"group by {way} {shown_list(keys)} of {_shown_values(values)}"
    return f"distinct by {plan[1]}" if form == "distinct" else _line_of_both(plan)


def with_depths(plan):
    """Return all operators, each ahead of its inputs, with how many operators stand above them."""
    found = []
    waiting = [(plan, 0)]
    while waiting:
        operator, depth = waiting.pop()
        found.append((operator, depth))
        waiting.extend([(below, depth + 1) for below in inputs_in(operator)[::-1]])
    return found


def shown_plan(plan, names):
    """Return the lines of a plan, for the list of the names of the tables."""
    return [_BLANKS * depth + _plan_line(operator, names) for operator, depth in with_depths(plan)]


def shown_physical(plan, names):
    """Return the lines of a physical plan, for the list of the names of the tables."""
    return [_BLANKS * depth + shown_line(operator, names) for operator, depth in with_depths(plan)]


def shown_move(move):
    """Return the text of a move."""
    rule, number = move
    return f"{rule} at {number}"
