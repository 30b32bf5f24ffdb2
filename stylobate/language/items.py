"""Binding what the lists of steps consist of: items, keys, aggregates, functions of windows."""

from stylobate.errors import QueryError
from stylobate.language.binding import KINDS_FAULT, Visible, bind_truth, bind_whole
from stylobate.language.parts import kind_name

_SUMS = ("sum", "avg")
_TRUTHS = ("every", "some")
# Aggregates and functions of windows that have the kind of their operand.
_OF_OPERAND = ("sum", "min", "max", "first", "last", "before", "after")
_NEVER_NONE = ("rows", "count", "distinct", "grouping", "number", "rank", "dense")


def _item_name(item):
    """Return the name of an item: that after as, or that of the column that it is."""
    code, alias, offset = item
    if alias is not None:
        return alias
    if len(code) == 1 and code[0][0] == "name":
        return code[0][2]
    raise QueryError(offset, "a name is expected: as")


def check_name(name, taken, offset):
    """Raise a fault if the name stands already among those taken; otherwise take it."""
    if name in taken:
        raise QueryError(offset, f"the name stands twice: {name}")
    taken[name] = True


def bind_items(items, scope, taken):
    """Return the expressions of items, and their columns; names are put into the dict of those taken."""
    expressions = []
    columns = []
    for item in items:
        code, _, offset = item
        part = bind_whole(code, scope, offset)
        name = _item_name(item)
        check_name(name, taken, offset)
        expressions.append(part.expression)
        columns.append(Visible(name, part.kind))
    return tuple(expressions), columns


def bind_keys(keys, scope):
    """Return the keys of an order, with those in front that put None elsewhere than it stands."""
    found = []
    for code, descending, nulls, offset in keys:
        expression = bind_whole(code, scope, offset).expression
        if nulls == "first" and descending:
            found.append((("unary", "is null", expression), True))
        elif nulls == "last" and not descending:
            found.append((("unary", "is null", expression), False))
        found.append((expression, descending))
    return tuple(found)


def _check_kind(name, kind, offset):
    """Raise a fault if an aggregate or a function does not work on this kind."""
    if name in _SUMS:
        fits = kind in ("int", "decimal")
    elif name in _TRUTHS:
        fits = kind == "bool"
    else:
        fits = name != "list" or kind == "text"
    if not fits:
        raise QueryError(offset, KINDS_FAULT)


def _result_kind(name, kind):
    """Return the kind of an aggregate or a function, for the kind of its operand."""
    if name in _OF_OPERAND:
        return kind
    if name == "avg":
        return "decimal"
    if name in _TRUTHS:
        return "bool"
    return "text" if name == "list" else "int"


def result_column(name, kind, alias):
    """Return the column of an aggregate or a function of a window."""
    return Visible(alias, (_result_kind(name, kind), name not in _NEVER_NONE))


def _value_of(name, kind, expression, condition):
    """Return the value of a group (part 3) that an aggregate stands for."""
    if name == "rows" and condition is None:
        return ("rows", None)
    if name == "rows":
        return ("count", ("choice", condition, ("constant", True), ("constant", None)))
    if name == "avg":
        name = "average decimal" if kind == "decimal" else "average"
    if condition is not None:
        expression = ("choice", condition, expression, ("constant", None))
    return (name, expression)


def _bind_operand(code, scope, offset):
    """Return the expression of an operand and the name of its kind; None and None if there is none."""
    if code is None:
        return None, None
    part = bind_whole(code, scope, offset)
    return part.expression, kind_name(part)


def bind_aggregate(aggregate, scope):
    """Return the value and the column of an aggregate other than grouping; its name is not looked at."""
    name, code, condition_code, alias, offset = aggregate
    expression, kind = _bind_operand(code, scope, offset)
    condition = None
    if condition_code is not None:
        condition = bind_truth(condition_code, scope, offset)
    _check_kind(name, kind, offset)
    return _value_of(name, kind, expression, condition), result_column(name, kind, alias)


def bind_function(function, scope):
    """Return the function of a window (part 3) and its column; its name is not looked at."""
    name, code, frame, number, alias, offset = function
    expression, kind = _bind_operand(code, scope, offset)
    _check_kind(name, kind, offset)
    return (name, expression, frame, number), result_column(name, kind, alias)
