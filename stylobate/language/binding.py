"""Binding expressions: to columns, parameters and functions, with their kinds."""

from stylobate.errors import QueryError
from stylobate.language.defined import call_fault, date_fault, find_defined
from stylobate.language.meanings import call_part, is_call, node_part
from stylobate.language.parts import Part, column_part, constant_part, kind_name
from stylobate.language.reading_expressions import operands_of
from stylobate.values.kinds import is_none

_MOST_SIZE = 1000
_MOST_DEPTH = 60
KINDS_FAULT = "the kinds do not fit"


class Visible:
    """A column in reach: its name, its kind (a tuple (kind, nullable)), and the name of its table."""

    def __init__(self, name, kind, table=None):
        self.name = name
        self.kind = kind
        self.table = table


class Scope:
    """What an expression can name.

    In the body of a function, `operands` is the dict of the parts for its parameters; elsewhere None.
    """

    def __init__(self, columns, parameters, functions, operands=None):
        self.columns = columns
        self.parameters = parameters
        self.functions = functions
        self.operands = operands


def _column(node, columns):
    """Return the part of the one column in reach that a name stands for."""
    _, table, name, offset = node
    found = []
    for number, column in enumerate(columns):
        if column.name == name and (table is None or column.table == table):
            found.append(number)
    if not found:
        raise QueryError(offset, f"unknown column {name}")
    if len(found) > 1:
        raise QueryError(offset, f"more than one column {name}")
    return column_part(found[0], columns[found[0]].kind)


def _parameter(node, parameters):
    _, number, offset = node
    if number > len(parameters):
        raise QueryError(offset, "a parameter is not given")
    return constant_part(parameters[number - 1])


def _call(node, parts, scope, place):
    _, name, count, _ = node
    fault = call_fault(node, scope.functions)
    if fault is not None:
        raise QueryError(fault[0], fault[1])
    if is_call(name, count):
        return call_part(name, parts)
    function = find_defined(scope.functions, name, count)
    operands = dict(zip(function.parameters, parts))
    body = bind_code(function.code, Scope([], [], scope.functions[:function.at], operands), place)
    # The call and its operands count, too: so a short text cannot make the work endless.
    size = body.size + 1 + sum([part.size for part in parts])
    return Part(body.expression, body.kind, size, body.depth)


def _part_of(node, parts, scope, place):
    form = node[0]
    if form == "name":
        return _column(node, scope.columns) if scope.operands is None else scope.operands[node[2]]
    if form == "parameter":
        return _parameter(node, scope.parameters)
    if form == "call":
        return _call(node, parts, scope, place)
    fault = date_fault(node)
    if fault is not None:
        raise QueryError(fault[0], fault[1])
    return node_part(node, parts)


def _check_part(part, scope, place):
    if part.size > _MOST_SIZE:
        raise QueryError(place, "the expression is too large")
    # The body of a function is one part with its call: there only the size is looked at on the way.
    if scope.operands is not None:
        return
    if part.depth > _MOST_DEPTH:
        raise QueryError(place, "the expression is nested too deeply")
    if part.kind is None and not is_none(part.expression):
        raise QueryError(place, KINDS_FAULT)


def bind_code(code, scope, place):
    """Return the part of an expression; `place` is where faults of sizes and kinds stand."""
    waiting = []
    for node in code:
        first = len(waiting) - operands_of(node)
        part = _part_of(node, waiting[first:], scope, place)
        _check_part(part, scope, place)
        del waiting[first:]
        waiting.append(part)
    return waiting[0]


def bind_whole(code, scope, place):
    """Return the part of a whole expression, which has a kind."""
    part = bind_code(code, scope, place)
    if part.kind is None:
        raise QueryError(place, KINDS_FAULT)
    return part


def bind_truth(code, scope, place):
    """Return the expression of a condition."""
    part = bind_whole(code, scope, place)
    if kind_name(part) != "bool":
        raise QueryError(place, "a condition is expected")
    return part.expression
