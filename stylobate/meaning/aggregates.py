"""The values of groups over lists of rows."""

from stylobate.values.decimals import limited, rounded
from stylobate.values.expressions import evaluate
from stylobate.values.order import is_integer, rank
from stylobate.values.texts import MOST

_SCALE = 10000


def _known(values):
    return [value for value in values if value is not None]


def _integers(values):
    return [value for value in values if is_integer(value)]


def _booleans(values):
    return [value for value in values if isinstance(value, bool)]


def _count(values):
    return len(_known(values))


def _distinct(values):
    return len({rank(value): True for value in _known(values)})


def _sum(values):
    integers = _integers(values)
    return limited(sum(integers)) if integers else None


def _least(values):
    return min(_known(values), key=rank, default=None)


def _greatest(values):
    return max(_known(values), key=rank, default=None)


def _average_decimal(values):
    integers = _integers(values)
    return limited(rounded(sum(integers), len(integers))) if integers else None


def _average(values):
    return _average_decimal([_SCALE * value for value in _integers(values)])


def _every(values):
    booleans = _booleans(values)
    return all(booleans) if booleans else None


def _some(values):
    booleans = _booleans(values)
    return any(booleans) if booleans else None


def _list(values):
    strings = sorted([value for value in values if isinstance(value, str)])
    # The length is told ahead: the text itself could be huge.
    length = sum([len(string) for string in strings]) + 2 * (len(strings) - 1)
    if not strings or length > MOST:
        return None
    return ", ".join(strings)


_OVER_VALUES = {
    "count": _count,
    "distinct": _distinct,
    "sum": _sum,
    "min": _least,
    "max": _greatest,
    "average": _average,
    "average decimal": _average_decimal,
    "every": _every,
    "some": _some,
    "list": _list,
}


def aggregate(value, rows):
    """Return a value (a tuple of its name and its expression) over a list of rows."""
    name, expression = value
    if name == "rows":
        return len(rows)
    action = _OVER_VALUES[name]
    return action([evaluate(expression, row) for row in rows])
