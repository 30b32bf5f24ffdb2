"""Expressions: tuples that stand for a value in each row."""

from stylobate.values.operations import binary, ternary, unary
from stylobate.values.order import same

# Where the parts of an expression begin in its tuple, by its form.
_FIRST_PART = {"constant": 2, "column": 2, "unary": 2, "binary": 2, "ternary": 2, "choice": 1}


def evaluate(expression, row):
    """Return the value of an expression in a row; columns beyond its end are None."""
    form = expression[0]
    if form == "constant":
        return expression[1]
    if form == "column":
        number = expression[1]
        return row[number] if number < len(row) else None
    if form == "unary":
        return unary(expression[1], evaluate(expression[2], row))
    if form == "binary":
        return binary(expression[1], evaluate(expression[2], row), evaluate(expression[3], row))
    if form == "choice":
        chosen = 2 if evaluate(expression[1], row) is True else 3
        return evaluate(expression[chosen], row)
    first, second, third = expression[2:]
    return ternary(expression[1], evaluate(first, row), evaluate(second, row), evaluate(third, row))


def holds(expression, row):
    """Tell whether the value of a condition is True."""
    return evaluate(expression, row) is True


def evaluate_all(expressions, row):
    """Return the list of the values of the expressions."""
    return [evaluate(expression, row) for expression in expressions]


def parts_of(expression):
    """Return the tuple of the expressions that an operation or a choice works on."""
    return expression[_FIRST_PART[expression[0]]:]


def _with_parts(expression, parts):
    return expression[:_FIRST_PART[expression[0]]] + tuple(parts)


def columns_of(expression):
    """Return the ascending list of the columns in an expression."""
    found = {}
    waiting = [expression]
    while waiting:
        part = waiting.pop()
        if part[0] == "column":
            found[part[1]] = True
        waiting.extend(parts_of(part))
    return sorted(found)


def column_range(start, behind):
    """Return the tuple of the expressions of neighboring columns."""
    return tuple([("column", number) for number in range(start, behind)])


def moved(expression, distance):
    """Return the expression with column k + distance for each column k."""
    if expression[0] == "column":
        return ("column", expression[1] + distance)
    parts = []
    for part in parts_of(expression):
        parts.append(moved(part, distance))
    return _with_parts(expression, parts)


def replaced(expression, expressions):
    """Return the expression with the expression at index k for each column k."""
    if expression[0] == "column":
        number = expression[1]
        return expressions[number] if number < len(expressions) else ("constant", None)
    parts = []
    for part in parts_of(expression):
        parts.append(replaced(part, expressions))
    return _with_parts(expression, parts)


def size_of(expression):
    """Return how many constants, columns, operations and choices an expression has."""
    size = 0
    waiting = [expression]
    while waiting:
        size += 1
        waiting.extend(parts_of(waiting.pop()))
    return size


def depth_of(expression):
    """Return how deep an expression is nested."""
    depth = 0
    level = [expression]
    while level:
        depth += 1
        level = [part for outer in level for part in parts_of(outer)]
    return depth


def same_expression(first, second):
    """Tell whether two expressions have the same structure, names, numbers and constants."""
    waiting = [(first, second)]
    while waiting:
        one, other = waiting.pop()
        if one[0] != other[0]:
            return False
        if one[0] == "constant":
            if not same(one[1], other[1]):
                return False
        elif one[0] != "choice" and one[1] != other[1]:
            return False
        waiting.extend(list(zip(parts_of(one), parts_of(other))))
    return True


def _is_constant(expression):
    return expression[0] == "constant"


def _is_value(expression, value):
    return _is_constant(expression) and same(expression[1], value)


def _fold_binary(expression):
    _, name, first, second = expression
    if name == "and" and (_is_value(first, False) or _is_value(second, False)):
        return ("constant", False)
    if name == "or" and (_is_value(first, True) or _is_value(second, True)):
        return ("constant", True)
    if name == "coalesce" and _is_constant(first):
        return second if _is_value(first, None) else first
    return expression


def _fold_here(expression):
    """Fold an expression whose parts are folded."""
    form = expression[0]
    if form in ("constant", "column"):
        return expression
    if form == "choice":
        _, condition, first, second = expression
        if not _is_constant(condition):
            return expression
        return first if condition[1] is True else second
    if all([_is_constant(part) for part in parts_of(expression)]):
        return ("constant", evaluate(expression, []))
    return _fold_binary(expression) if form == "binary" else expression


def folded(expression):
    """Return the expression, folded from the inside out."""
    parts = []
    for part in parts_of(expression):
        parts.append(folded(part))
    return _fold_here(_with_parts(expression, parts))
