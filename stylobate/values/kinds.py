"""The kinds of expressions."""

from stylobate.values.days import is_day
from stylobate.values.decimals import GREATEST
from stylobate.values.order import is_integer
from stylobate.values.texts import MOST

KINDS = ("bool", "int", "text", "date", "decimal")

# By the operation and the kinds of what it works on: the kind of the result, and whether it is
# nullable whatever the parts are.
_OF_ONE = {
    ("not", "bool"): ("bool", False),
    ("negate", "int"): ("int", False),
    ("negate", "decimal"): ("decimal", False),
    ("abs", "int"): ("int", False),
    ("abs", "decimal"): ("decimal", False),
    ("sign", "int"): ("int", False),
    ("sign", "decimal"): ("int", False),
    ("lower", "text"): ("text", False),
    ("upper", "text"): ("text", False),
    ("trim", "text"): ("text", False),
    ("length", "text"): ("int", False),
    ("year", "date"): ("int", False),
    ("month", "date"): ("int", False),
    ("day", "date"): ("int", False),
    ("weekday", "date"): ("int", False),
    ("month start", "date"): ("date", False),
    ("year start", "date"): ("date", False),
    ("week start", "date"): ("date", False),
    ("as date", "int"): ("date", True),
    ("as decimal", "int"): ("decimal", False),
    ("to decimal", "int"): ("decimal", True),
    ("to int", "decimal"): ("int", False),
    ("int to text", "int"): ("text", False),
    ("date to text", "date"): ("text", False),
    ("decimal to text", "decimal"): ("text", False),
    ("text to int", "text"): ("int", True),
    ("text to date", "text"): ("date", True),
    ("text to decimal", "text"): ("decimal", True),
}

_OF_TWO = {
    ("and", "bool", "bool"): ("bool", False),
    ("or", "bool", "bool"): ("bool", False),
    ("like", "text", "text"): ("bool", False),
    ("position", "text", "text"): ("int", False),
    ("add", "int", "int"): ("int", True),
    ("add", "decimal", "decimal"): ("decimal", True),
    ("subtract", "int", "int"): ("int", True),
    ("subtract", "decimal", "decimal"): ("decimal", True),
    ("subtract", "date", "date"): ("int", True),
    ("rest", "int", "int"): ("int", True),
    ("rest", "decimal", "decimal"): ("decimal", True),
    ("multiply", "int", "int"): ("int", True),
    ("divide", "int", "int"): ("int", True),
    ("multiply decimals", "decimal", "decimal"): ("decimal", True),
    ("divide decimals", "decimal", "decimal"): ("decimal", True),
    ("join", "text", "text"): ("text", True),
    ("add days", "date", "int"): ("date", True),
    ("add months", "date", "int"): ("date", True),
}

_OF_THREE = {
    ("part", "text", "int", "int"): ("text", True),
    ("split", "text", "text", "int"): ("text", True),
    ("pad", "text", "text", "int"): ("text", True),
    ("replace", "text", "text", "text"): ("text", True),
}


def constant_kind(value):
    """Return the kind of a constant and False, or None for the constant None."""
    if value is None:
        return None
    if isinstance(value, bool):
        return ("bool", False)
    if isinstance(value, int):
        return ("int", False)
    return ("text", False)


def unary_kind(name, part):
    """Return what an operation on a part of this kind has, or None.

    Here and below, a kind is a tuple (kind, nullable), or None where there is none.
    """
    if part is None:
        return None
    if name == "is null":
        return ("bool", False)
    found = _OF_ONE.get((name, part[0]))
    return None if found is None else (found[0], found[1] or part[1])


def binary_kind(name, first, second):
    """Return what an operation on two parts of these kinds has, or None."""
    if first is None or second is None:
        return None
    one_is = first[1] or second[1]
    if name in ("equal", "less", "at most", "same", "least", "greatest", "coalesce"):
        if first[0] != second[0]:
            return None
        if name == "same":
            return ("bool", False)
        if name == "coalesce":
            return (first[0], first[1] and second[1])
        return (first[0] if name in ("least", "greatest") else "bool", one_is)
    found = _OF_TWO.get((name, first[0], second[0]))
    return None if found is None else (found[0], found[1] or one_is)


def ternary_kind(name, first, second, third):
    """Return what an operation on three parts of these kinds has, or None."""
    if first is None or second is None or third is None:
        return None
    return _OF_THREE.get((name, first[0], second[0], third[0]))


def is_none(expression):
    """Tell whether an expression is the constant None."""
    return expression[0] == "constant" and expression[1] is None


def choice_kind(condition, first, second, branches):
    """Return what a choice has, or None, for the kinds of its parts and its two branches."""
    if condition is None or condition[0] != "bool":
        return None
    if first is not None and second is not None:
        return (first[0], first[1] or second[1]) if first[0] == second[0] else None
    if is_none(branches[0]) and second is not None:
        return (second[0], True)
    if is_none(branches[1]) and first is not None:
        return (first[0], True)
    return None


def kind_of(expression, columns):
    """Return the tuple of the kind of an expression and whether it is nullable, or None."""
    form = expression[0]
    if form == "constant":
        return constant_kind(expression[1])
    if form == "column":
        number = expression[1]
        return tuple(columns[number]) if number < len(columns) else None
    if form == "unary":
        return unary_kind(expression[1], kind_of(expression[2], columns))
    if form == "binary":
        _, name, first, second = expression
        return binary_kind(name, kind_of(first, columns), kind_of(second, columns))
    if form == "ternary":
        _, name, first, second, third = expression
        return ternary_kind(name, kind_of(first, columns), kind_of(second, columns), kind_of(third, columns))
    _, condition, first, second = expression
    told = kind_of(condition, columns)
    return choice_kind(told, kind_of(first, columns), kind_of(second, columns), (first, second))


def fits(value, kind):
    """Tell whether a value is not None, fits the kind, and is within the limits."""
    if kind == "bool":
        return isinstance(value, bool)
    if kind == "text":
        return isinstance(value, str) and len(value) <= MOST
    if kind == "date":
        return is_day(value)
    return is_integer(value) and -GREATEST <= value <= GREATEST
