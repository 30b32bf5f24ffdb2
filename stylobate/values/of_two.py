"""Operations on two values."""

from stylobate.values.days import date_of, day_of, is_day, month_length
from stylobate.values.decimals import limited, quotient, rounded
from stylobate.values.logic import both, either
from stylobate.values.order import before, is_integer, kind_rank, same
from stylobate.values.texts import MOST, is_like


def _both(first, second):
    return both(first, second)


def _either(first, second):
    return either(first, second)


def _same(first, second):
    return same(first, second)


def _first_known(first, second):
    return second if first is None else first


def _equal(first, second):
    return same(first, second)


def _less(first, second):
    return before(first, second)


def _at_most(first, second):
    return not before(second, first)


def _least(first, second):
    return second if before(second, first) else first


def _greatest(first, second):
    return second if before(first, second) else first


def _add(first, second):
    return limited(first + second)


def _subtract(first, second):
    return limited(first - second)


def _multiply(first, second):
    return limited(first * second)


def _divide(first, second):
    return None if second == 0 else limited(quotient(first, second))


def _rest(first, second):
    return None if second == 0 else limited(first - second * quotient(first, second))


def _multiply_decimals(first, second):
    return limited(rounded(first * second, 10000))


def _divide_decimals(first, second):
    return None if second == 0 else limited(rounded(10000 * first, second))


def _join(first, second):
    return None if len(first) + len(second) > MOST else first + second


def _like(first, second):
    return is_like(first, second)


def _position(first, second):
    return first.find(second) + 1


def _add_days(day, many):
    later = day + many
    return later if is_day(later) else None


def _add_months(day, many):
    year, month, date = date_of(day)
    years, before_it = divmod(month - 1 + many, 12)
    month = before_it + 1
    return day_of(year + years, month, min(date, month_length(year + years, month)))


_OF_ANY = {
    "and": _both,
    "or": _either,
    "same": _same,
    "coalesce": _first_known,
}

_OF_ALIKE = {
    "equal": _equal,
    "less": _less,
    "at most": _at_most,
    "least": _least,
    "greatest": _greatest,
}

_OF_INTEGERS = {
    "add": _add,
    "subtract": _subtract,
    "multiply": _multiply,
    "divide": _divide,
    "rest": _rest,
    "multiply decimals": _multiply_decimals,
    "divide decimals": _divide_decimals,
}

_OF_TEXTS = {
    "join": _join,
    "like": _like,
    "position": _position,
}

_OF_DATES = {
    "add days": _add_days,
    "add months": _add_months,
}


def _are_alike(first, second):
    return first is not None and kind_rank(first) == kind_rank(second)


def value_of_two(name, first, second):
    """Return the value of an operation on two values."""
    if name in _OF_ANY:
        action = _OF_ANY[name]
        return action(first, second)
    if name in _OF_ALIKE:
        action = _OF_ALIKE[name]
        return action(first, second) if _are_alike(first, second) else None
    if name in _OF_INTEGERS:
        action = _OF_INTEGERS[name]
        return action(first, second) if is_integer(first) and is_integer(second) else None
    if name in _OF_TEXTS:
        action = _OF_TEXTS[name]
        return action(first, second) if isinstance(first, str) and isinstance(second, str) else None
    action = _OF_DATES[name]
    return action(first, second) if is_day(first) and is_integer(second) else None
