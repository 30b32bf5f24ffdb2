"""Parts of expressions that were bound: with their kind, size and depth."""

from stylobate.values.kinds import binary_kind, choice_kind, constant_kind, ternary_kind, unary_kind


class Part:
    """An expression with its kind (a tuple (kind, nullable), or None), its size and its depth.

    The size is the one that counts for the limit: calls of defined functions make it greater than that
    of the expression.
    """

    def __init__(self, expression, kind, size, depth):
        self.expression = expression
        self.kind = kind
        self.size = size
        self.depth = depth


def kind_name(part):
    """Return the name of the kind of a part, or None."""
    return None if part.kind is None else part.kind[0]


def _outer(expression, kind, parts):
    size = 1 + sum([part.size for part in parts])
    return Part(expression, kind, size, 1 + max([part.depth for part in parts]))


def constant_part(value):
    """Return a constant."""
    return Part(("constant", value), constant_kind(value), 1, 1)


def column_part(number, kind):
    """Return a column."""
    return Part(("column", number), kind, 1, 1)


def unary_part(name, one):
    """Return an operation on one part."""
    return _outer(("unary", name, one.expression), unary_kind(name, one.kind), [one])


def binary_part(name, one, other):
    """Return an operation on two parts."""
    expression = ("binary", name, one.expression, other.expression)
    return _outer(expression, binary_kind(name, one.kind, other.kind), [one, other])


def ternary_part(name, parts):
    """Return an operation on three parts."""
    one, two, three = parts
    expression = ("ternary", name, one.expression, two.expression, three.expression)
    return _outer(expression, ternary_kind(name, one.kind, two.kind, three.kind), parts)


def choice_part(condition, one, other):
    """Return a choice."""
    branches = (one.expression, other.expression)
    kind = choice_kind(condition.kind, one.kind, other.kind, branches)
    return _outer(("choice", condition.expression) + branches, kind, [condition, one, other])
