"""Zones of columns, and what they tell of expressions: their spans.

A span is "any", or a tuple (null, low, high): whether the value may be None, and between which values
every other one lies (None and None if there is no other one).
"""

from stylobate.values.order import before, is_integer, rank

ANY = "any"
_NOTHING = (True, None, None)


class Zone:
    """What is known of the values of a column in a group."""

    def __init__(self, many, nulls, least, greatest):
        self.many = many
        self.nulls = nulls
        self.least = least
        self.greatest = greatest


def zone_of(values):
    """Return the zone of the list of the values of a column."""
    present = [value for value in values if value is not None]
    least = min(present, key=rank, default=None)
    greatest = max(present, key=rank, default=None)
    return Zone(len(values), len(values) - len(present), least, greatest)


def _has_values(span):
    return span == ANY or span[1] is not None


def _may_be_none(span):
    return span == ANY or span[0]


def can_be(span, value):
    """Tell whether a value other than None lies in a span."""
    if span == ANY:
        return True
    _, low, high = span
    return low is not None and not before(value, low) and not before(high, value)


def _truth_span(null, can_hold, can_fail):
    """Return the span of what can be True, can be False, or neither."""
    if not can_hold and not can_fail:
        return (null, None, None)
    return (null, not can_fail, can_hold)


def _not_span(span):
    return _truth_span(True, can_be(span, False), can_be(span, True))


def _is_null_span(span):
    return _truth_span(False, _may_be_none(span), _has_values(span))


def _has_integers(span):
    return span != ANY and is_integer(span[1]) and is_integer(span[2])


def _unary_span(name, span):
    if name == "not":
        return _not_span(span)
    if name == "is null":
        return _is_null_span(span)
    if name not in ("negate", "abs", "as date", "as decimal", "to decimal") or not _has_integers(span):
        return ANY
    _, low, high = span
    if name == "negate":
        return (True, -high, -low)
    if name == "abs":
        return (True, max(low, -high, 0), max(-low, high))
    if name == "to decimal":
        return (True, 10000 * low, 10000 * high)
    return (True, low, high)


def _and_span(first, second):
    can_hold = can_be(first, True) and can_be(second, True)
    return _truth_span(True, can_hold, can_be(first, False) or can_be(second, False))


def _or_span(first, second):
    can_fail = can_be(first, False) and can_be(second, False)
    return _truth_span(True, can_be(first, True) or can_be(second, True), can_fail)


def _comparison_span(name, first, second):
    if not _has_values(first) or not _has_values(second):
        return _NOTHING
    if first == ANY or second == ANY:
        return (True, False, True)
    _, low, high = first
    _, other_low, other_high = second
    if name == "equal":
        return _truth_span(True, not before(high, other_low) and not before(other_high, low), True)
    if name == "less":
        return _truth_span(True, before(low, other_high), not before(high, other_low))
    return _truth_span(True, not before(other_high, low), before(other_low, high))


def _sum_span(name, first, second):
    if not _has_integers(first) or not _has_integers(second):
        return ANY
    _, low, high = first
    _, other_low, other_high = second
    if name == "subtract":
        return (True, low - other_high, high - other_low)
    return (True, low + other_low, high + other_high)


def _either_span(first, second):
    """Return the span of what is the one or the other."""
    if first == ANY or second == ANY:
        return ANY
    null = first[0] or second[0]
    if first[1] is None:
        return (null, second[1], second[2])
    if second[1] is None:
        return (null, first[1], first[2])
    low = second[1] if before(second[1], first[1]) else first[1]
    high = second[2] if before(first[2], second[2]) else first[2]
    return (null, low, high)


def _binary_span(name, first, second):
    if name == "and":
        return _and_span(first, second)
    if name == "or":
        return _or_span(first, second)
    if name in ("equal", "less", "at most"):
        return _comparison_span(name, first, second)
    if name in ("add", "add days", "subtract"):
        return _sum_span(name, first, second)
    return _either_span(first, second) if name == "coalesce" else ANY


def _column_span(number, zones):
    if number >= len(zones):
        return _NOTHING
    zone = zones[number]
    return (zone.nulls > 0, zone.least, zone.greatest)


def span_of(expression, zones):
    """Return the span of an expression, for the list of the zones of all columns."""
    form = expression[0]
    if form == "constant":
        value = expression[1]
        return (value is None, value, value)
    if form == "column":
        return _column_span(expression[1], zones)
    if form == "unary":
        return _unary_span(expression[1], span_of(expression[2], zones))
    if form == "binary":
        return _binary_span(expression[1], span_of(expression[2], zones), span_of(expression[3], zones))
    if form == "choice":
        return _either_span(span_of(expression[2], zones), span_of(expression[3], zones))
    return ANY


def may_hold(condition, zones):
    """Tell whether a condition may hold in a group with these zones."""
    return can_be(span_of(condition, zones), True)
