"""Words about conditions: their parts, what they use, and what None makes of them."""

from stylobate.values.expressions import columns_of, parts_of

_TRUE = ("constant", True)


def is_true(condition):
    """Tell whether a condition is the constant True."""
    return condition[0] == "constant" and condition[1] is True


def condition_parts(condition):
    """Return the list of the parts that "and" joins to a condition."""
    found = []
    waiting = [condition]
    while waiting:
        part = waiting.pop()
        if part[0] == "binary" and part[1] == "and":
            waiting.extend([part[3], part[2]])
        else:
            found.append(part)
    return found


def conjunction(conditions):
    """Return the conditions of a list joined, nested as little as can be."""
    if not conditions:
        return _TRUE
    if len(conditions) == 1:
        return conditions[0]
    half = len(conditions) // 2
    return ("binary", "and", conjunction(conditions[:half]), conjunction(conditions[half:]))


def together(first, second):
    """Return both conditions together: the parts of the first, then those of the second, joined."""
    return conjunction(condition_parts(first) + condition_parts(second))


def uses_only(expression, low, high):
    """Tell whether all columns of an expression are at least `low` and less than `high`."""
    columns = columns_of(expression)
    return not columns or (low <= columns[0] and columns[-1] < high)


def is_plain(expression):
    """Tell whether an expression is a column or a constant."""
    return expression[0] in ("column", "constant")


def _columns_in(expressions):
    """Return how often each column stands in the expressions, as a dict."""
    found = {}
    waiting = list(expressions)
    while waiting:
        part = waiting.pop()
        if part[0] == "column":
            found[part[1]] = found.get(part[1], 0) + 1
        waiting.extend(parts_of(part))
    return found


def can_merge(expressions, others):
    """Tell whether the expressions can take the places of the columns of the others.

    None of them is then worked more often than before, but plain ones.
    """
    found = _columns_in(others)
    return all([is_plain(expression) or found.get(column, 0) <= 1 for column, expression in enumerate(expressions)])


def none_from(expression, m):
    """Tell whether an expression is None where all columns from m on are None."""
    form = expression[0]
    if form == "constant":
        return expression[1] is None
    if form == "column":
        return expression[1] >= m
    name = expression[1]
    parts = expression[2:]
    if form == "choice" or name in ("and", "or", "coalesce"):
        return none_from(parts[0], m) and none_from(parts[1], m)
    if name in ("is null", "same"):
        return False
    return any([none_from(part, m) for part in parts])


def refuses(condition, m):
    """Tell whether a condition refuses None from m on: where all these columns are None, it does not hold."""
    if condition[0] == "binary" and condition[1] == "and":
        _, _, first, second = condition
        return refuses(first, m) or refuses(second, m) or none_from(condition, m)
    if condition[0] == "binary" and condition[1] == "or":
        _, _, first, second = condition
        return refuses(first, m) and refuses(second, m)
    if condition[0] == "unary" and condition[1] == "not":
        inner = condition[2]
        if inner[0] == "unary" and inner[1] == "is null":
            return none_from(inner[2], m)
    return none_from(condition, m)
