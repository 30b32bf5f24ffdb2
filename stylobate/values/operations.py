"""The names of the operations, and their values."""

from stylobate.values.of_one import value_of_one
from stylobate.values.of_three import value_of_three
from stylobate.values.of_two import value_of_two

UNARY = (
    "not", "negate", "abs", "sign", "is null", "lower", "upper", "length", "trim",
    "year", "month", "day", "weekday", "month start", "year start", "week start",
    "as date", "as decimal", "to decimal", "to int", "int to text", "decimal to text",
    "date to text", "text to int", "text to decimal", "text to date",
)

BINARY = (
    "and", "or", "equal", "less", "at most", "same", "least", "greatest",
    "add", "subtract", "multiply", "divide", "rest", "multiply decimals", "divide decimals",
    "join", "like", "position", "coalesce", "add days", "add months",
)

TERNARY = ("part", "split", "replace", "pad")


def unary(name, value):
    """Return the value of an operation on one value."""
    return value_of_one(name, value)


def binary(name, first, second):
    """Return the value of an operation on two values."""
    return value_of_two(name, first, second)


def ternary(name, first, second, third):
    """Return the value of an operation on three values."""
    return value_of_three(name, first, second, third)
