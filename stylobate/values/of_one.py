"""Operations on one value."""

from stylobate.values.days import FIRST_DAY, date_of, date_text, day_of, is_day, read_date
from stylobate.values.decimals import decimal_text, limited, read_decimal, read_integer, rounded
from stylobate.values.logic import negated
from stylobate.values.order import is_integer
from stylobate.values.texts import lowered, raised


def _negate(number):
    return -number


def _size(number):
    return abs(number)


def _sign(number):
    if number == 0:
        return 0
    return 1 if number > 0 else -1


def _value(value):
    return value


def _to_decimal(number):
    return limited(10000 * number)


def _to_integer(number):
    return rounded(number, 10000)


def _integer_text(number):
    return str(number)


def _decimal_text(number):
    return decimal_text(number)


def _lower(text):
    return lowered(text)


def _upper(text):
    return raised(text)


def _length(text):
    return len(text)


def _trim(text):
    return text.strip(" ")


def _read_integer(text):
    return read_integer(text)


def _read_decimal(text):
    return read_decimal(text)


def _read_date(text):
    return read_date(text)


def _year(day):
    return date_of(day)[0]


def _month(day):
    return date_of(day)[1]


def _date(day):
    return date_of(day)[2]


def _weekday(day):
    # The first date, 0001-01-01, is a Monday.
    return (day - FIRST_DAY) % 7 + 1


def _month_start(day):
    year, month, _ = date_of(day)
    return day_of(year, month, 1)


def _year_start(day):
    return day_of(date_of(day)[0], 1, 1)


def _week_start(day):
    return day + 1 - _weekday(day)


def _date_text(day):
    return date_text(day)


_OF_INTEGERS = {
    "negate": _negate,
    "abs": _size,
    "sign": _sign,
    "as decimal": _value,
    "to decimal": _to_decimal,
    "to int": _to_integer,
    "int to text": _integer_text,
    "decimal to text": _decimal_text,
}

_OF_TEXTS = {
    "lower": _lower,
    "upper": _upper,
    "length": _length,
    "trim": _trim,
    "text to int": _read_integer,
    "text to decimal": _read_decimal,
    "text to date": _read_date,
}

_OF_DATES = {
    "year": _year,
    "month": _month,
    "day": _date,
    "weekday": _weekday,
    "month start": _month_start,
    "year start": _year_start,
    "week start": _week_start,
    "as date": _value,
    "date to text": _date_text,
}


def value_of_one(name, value):
    """Return the value of an operation on one value."""
    if name == "not":
        return negated(value)
    if name == "is null":
        return value is None
    if name in _OF_INTEGERS:
        action = _OF_INTEGERS[name]
        return action(value) if is_integer(value) else None
    if name in _OF_TEXTS:
        action = _OF_TEXTS[name]
        return action(value) if isinstance(value, str) else None
    action = _OF_DATES[name]
    return action(value) if is_day(value) else None
