"""Dates of the Gregorian calendar as integers of days since 1970-01-01."""

from stylobate.values.order import is_integer
from stylobate.values.texts import is_digits

FIRST_DAY = -719162
LAST_DAY = 2932896
_LAST_YEAR = 9999
_MONTHS = (31, 28, 31, 30, 31, 30, 31, 31, 30, 31, 30, 31)
_DAYS_OF_YEAR = 365
_DAYS_OF_4_YEARS = 1461
_DAYS_OF_100_YEARS = 36524
_DAYS_OF_400_YEARS = 146097


def is_day(value):
    """Tell whether the value is an integer that is a date."""
    return is_integer(value) and FIRST_DAY <= value <= LAST_DAY


def _is_leap(year):
    return year % 4 == 0 and (year % 100 != 0 or year % 400 == 0)


def month_length(year, month):
    """Return the number of days of a month."""
    if month == 2 and _is_leap(year):
        return 29
    return _MONTHS[month - 1]


def day_of(year, month, date):
    """Return the integer of a date, or None if there is no such date."""
    if not (1 <= year <= _LAST_YEAR and 1 <= month <= 12):
        return None
    if not 1 <= date <= month_length(year, month):
        return None
    gone = year - 1
    days = _DAYS_OF_YEAR * gone + gone // 4 - gone // 100 + gone // 400
    for earlier in range(1, month):
        days += month_length(year, earlier)
    return FIRST_DAY + days + date - 1


def date_of(day):
    """Return the tuple (year, month, day of the month) of a date."""
    cycles, rest = divmod(day - FIRST_DAY, _DAYS_OF_400_YEARS)
    # The last century of a cycle, and the last year of four, are one day longer than the others.
    centuries = min(rest // _DAYS_OF_100_YEARS, 3)
    rest -= centuries * _DAYS_OF_100_YEARS
    fours, rest = divmod(rest, _DAYS_OF_4_YEARS)
    years = min(rest // _DAYS_OF_YEAR, 3)
    rest -= years * _DAYS_OF_YEAR
    year = 400 * cycles + 100 * centuries + 4 * fours + years + 1
    month = 1
    while rest >= month_length(year, month):
        rest -= month_length(year, month)
        month += 1
    return (year, month, rest + 1)


def date_text(day):
    """Return the text of a date, yyyy-mm-dd."""
    year, month, date = date_of(day)
    return f"{year:04d}-{month:02d}-{date:02d}"


def read_date(text):
    """Return the date that a text tells, or None."""
    if len(text) != 10 or text[4] != "-" or text[7] != "-":
        return None
    year, month, date = text[:4], text[5:7], text[8:]
    if not (is_digits(year) and is_digits(month) and is_digits(date)):
        return None
    return day_of(int(year), int(month), int(date))
