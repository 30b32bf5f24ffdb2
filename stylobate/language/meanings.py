"""What literals, operators and calls stand for."""

from stylobate.language.parts import (
    binary_part, choice_part, constant_part, kind_name, ternary_part, unary_part,
)
from stylobate.values.days import read_date

_CALLS_OF_ONE = {
    "lower": "lower", "upper": "upper", "length": "length", "trim": "trim", "abs": "abs", "sign": "sign",
    "year": "year", "month": "month", "day": "day", "weekday": "weekday", "month_start": "month start",
    "year_start": "year start", "week_start": "week start",
}
# For each kind that a call takes: the operation, or "" for the operand as it is. The kind "" stands for
# all others.
_CONVERSIONS = {
    "int": (("int", ""), ("decimal", "to int"), ("", "text to int")),
    "decimal": (("decimal", ""), ("int", "to decimal"), ("", "text to decimal")),
    "text": (("text", ""), ("int", "int to text"), ("date", "date to text"), ("", "decimal to text")),
    "date": (("date", ""), ("", "text to date")),
}
_CALLS_OF_TWO = ("coalesce", "same", "least", "greatest", "position", "add_months", "add_days")
_WITH_DECIMALS = ("coalesce", "same", "least", "greatest")
_OF_DATES = {"add_months": "add months", "add_days": "add days"}
_CALLS_OF_THREE = ("part", "replace", "split", "pad")
_ARITHMETIC = {"+": "add", "-": "subtract", "*": "multiply", "/": "divide", "mod": "rest"}
_OF_DECIMALS = {"multiply": "multiply decimals", "divide": "divide decimals"}


def is_call_name(name):
    """Tell whether a name is one of the calls that are always there."""
    return name in _CALLS_OF_ONE or name in _CONVERSIONS or name in _CALLS_OF_TWO or name in _CALLS_OF_THREE


def is_call(name, count):
    """Tell whether a name with so many operands is a call that is always there."""
    if count == 1:
        return name in _CALLS_OF_ONE or name in _CONVERSIONS
    return name in _CALLS_OF_TWO if count == 2 else name in _CALLS_OF_THREE


def literal_part(node):
    """Return what a literal stands for; a date must be one."""
    if node[0] == "date":
        return unary_part("as date", constant_part(read_date(node[1])))
    _, form, value = node
    if form == "decimal":
        return unary_part("as decimal", constant_part(value))
    if form == "true":
        return constant_part(True)
    if form == "false":
        return constant_part(False)
    return constant_part(value)


def to_decimal(part):
    """Return a part of the kind int as a decimal."""
    return unary_part("to decimal", part)


def _alike(one, other):
    """Return two parts; an int beside a decimal is made one."""
    if kind_name(one) == "int" and kind_name(other) == "decimal":
        return to_decimal(one), other
    if kind_name(one) == "decimal" and kind_name(other) == "int":
        return one, to_decimal(other)
    return one, other


def _compared(name, one, other):
    one, other = _alike(one, other)
    return binary_part(name, one, other)


def _days_part(sign, one, other):
    """Return what + and - stand for beside a date, or None."""
    if sign == "+" and kind_name(one) == "date" and kind_name(other) == "int":
        return binary_part("add days", one, other)
    if sign == "+" and kind_name(one) == "int" and kind_name(other) == "date":
        return binary_part("add days", other, one)
    if sign == "-" and kind_name(one) == "date" and kind_name(other) == "int":
        return binary_part("add days", one, unary_part("negate", other))
    return None


def _arithmetic_part(sign, one, other):
    days = _days_part(sign, one, other)
    if days is not None:
        return days
    one, other = _alike(one, other)
    name = _ARITHMETIC[sign]
    if kind_name(one) == "decimal" and name in _OF_DECIMALS:
        name = _OF_DECIMALS[name]
    return binary_part(name, one, other)


def operator_part(sign, one, other):
    """Return what an operator between two parts stands for."""
    if sign in ("and", "or"):
        return binary_part(sign, one, other)
    if sign == "||":
        return binary_part("join", one, other)
    if sign == "=":
        return _compared("equal", one, other)
    if sign == "<>":
        return unary_part("not", _compared("equal", one, other))
    if sign == "<":
        return _compared("less", one, other)
    if sign == ">":
        return _compared("less", other, one)
    if sign == "<=":
        return _compared("at most", one, other)
    if sign == ">=":
        return _compared("at most", other, one)
    return _arithmetic_part(sign, one, other)


def _negated(part, negated):
    return unary_part("not", part) if negated else part


def _either_of(parts):
    """Return an or of the first half, which is the longer one, and the second half."""
    if len(parts) == 1:
        return parts[0]
    half = (len(parts) + 1) // 2
    return binary_part("or", _either_of(parts[:half]), _either_of(parts[half:]))


def _in_part(one, literals):
    return _either_of([_compared("equal", one, literal_part(literal)) for literal in literals])


def _between_part(one, least, greatest):
    return binary_part("and", _compared("at most", least, one), _compared("at most", one, greatest))


def node_part(node, parts):
    """Return what a node of an expression stands for; it is no leaf but a literal, and no call."""
    form = node[0]
    if form in ("literal", "date"):
        return literal_part(node)
    if form == "not":
        return unary_part("not", parts[0])
    if form == "minus":
        return unary_part("negate", parts[0])
    if form == "operator":
        return operator_part(node[1], parts[0], parts[1])
    if form == "case":
        condition, one, other = parts
        one, other = _alike(one, other)
        return choice_part(condition, one, other)
    if form == "is null":
        return _negated(unary_part("is null", parts[0]), node[1])
    if form == "like":
        return _negated(binary_part("like", parts[0], parts[1]), node[1])
    if form == "between":
        return _negated(_between_part(parts[0], parts[1], parts[2]), node[1])
    return _negated(_in_part(parts[0], node[2]), node[1])


def _converted(name, part):
    for kind, operation in _CONVERSIONS[name]:
        if kind in ("", kind_name(part)):
            return unary_part(operation, part) if operation != "" else part
    return part


def call_part(name, parts):
    """Return what a call that is always there stands for."""
    if len(parts) == 3:
        return ternary_part(name, parts)
    if len(parts) == 1:
        return _converted(name, parts[0]) if name in _CONVERSIONS else unary_part(_CALLS_OF_ONE[name], parts[0])
    one, other = parts
    if name == "position":
        # The call names first what is looked for, the operation where it is looked for.
        return binary_part("position", other, one)
    if name in _WITH_DECIMALS:
        return _compared(name, one, other)
    return binary_part(_OF_DATES[name], one, other)
