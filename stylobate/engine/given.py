"""Values as they go into the engine and come out: dates and decimals are texts."""

from stylobate.errors import InvalidRow
from stylobate.values.days import date_text, read_date
from stylobate.values.decimals import decimal_text, read_decimal
from stylobate.values.kinds import fits
from stylobate.values.order import is_integer

_GREATEST_WHOLE = 100000000000
_SCALE = 10000


def _held_decimal(value):
    if isinstance(value, str):
        return read_decimal(value)
    if not is_integer(value) or abs(value) > _GREATEST_WHOLE:
        return None
    return _SCALE * value


def _held_value(value, kind):
    """Return a value other than None as it is held, or None if it does not fit the kind."""
    if kind == "date":
        return read_date(value) if isinstance(value, str) else None
    if kind == "decimal":
        return _held_decimal(value)
    return value if fits(value, kind) else None


def _held_row(row, columns):
    """Return a row as it is held, or None if it does not fit the columns."""
    if len(row) != len(columns):
        return None
    held = []
    for value, column in zip(row, columns):
        worth = None if value is None else _held_value(value, column.kind)
        if worth is None and (value is not None or not column.nullable):
            return None
        held.append(worth)
    return held


def held_rows(rows, columns):
    """Return the list of rows that were given as they are held."""
    found = []
    for place, row in enumerate(rows):
        held = _held_row(row, columns)
        if held is None:
            raise InvalidRow(place)
        found.append(held)
    return found


def _told_value(value, kind):
    if value is None:
        return None
    if kind == "date":
        return date_text(value)
    return decimal_text(value) if kind == "decimal" else value


def told_rows(rows, kinds):
    """Return the list of the rows as they come out, for the kinds of their columns."""
    return [[_told_value(value, kind) for value, kind in zip(row, kinds)] for row in rows]
