"""Rows read from texts with separators."""

from stylobate.errors import InvalidText
from stylobate.separated.records import split_records
from stylobate.values.days import read_date
from stylobate.values.decimals import read_decimal, read_integer
from stylobate.values.texts import MOST

_EXPECTED = {
    "bool": "true or false is expected",
    "int": "an integer is expected",
    "date": "a date is expected",
    "decimal": "a decimal is expected",
    "text": "the text is too long",
}


def _read_value(text, kind):
    """Return the value of a text, or None if it is none of this kind."""
    if kind == "bool":
        return text == "true" if text in ("true", "false") else None
    if kind == "int":
        return read_integer(text)
    if kind == "date":
        return read_date(text)
    if kind == "decimal":
        return read_decimal(text)
    return text if len(text) <= MOST else None


def _field_value(field, column):
    if field.text == "" and not field.marked:
        if not column.nullable:
            raise InvalidText(field.offset, "a value is expected")
        return None
    value = _read_value(field.text, column.kind)
    if value is None:
        raise InvalidText(field.offset, _EXPECTED[column.kind])
    return value


def _check_missing(columns, named):
    for number, column in enumerate(columns):
        if number not in named and not column.nullable:
            raise InvalidText(0, f"the column is missing: {column.name}")


def _columns_of_head(fields, columns):
    """Return the list of the numbers of the columns that a head names."""
    numbers = {column.name: number for number, column in enumerate(columns)}
    found = []
    for field in fields:
        if field.text not in numbers:
            raise InvalidText(field.offset, f"unknown column {field.text}")
        number = numbers[field.text]
        if number in found:
            raise InvalidText(field.offset, f"the column stands twice: {field.text}")
        found.append(number)
    _check_missing(columns, found)
    return found


def _check_count(fields, many):
    if len(fields) != many:
        offset = fields[many].offset if len(fields) > many else fields[0].offset
        raise InvalidText(offset, f"{many} fields are expected")


def _row_of(fields, numbers, columns):
    """Return the row of a record whose fields belong to the columns with these numbers."""
    _check_count(fields, len(numbers))
    row = [None] * len(columns)
    for field, number in zip(fields, numbers):
        row[number] = _field_value(field, columns[number])
    return row


def read_separated(text, columns, *, separator=",", head=True):
    """Return the list of the rows of a text, for a list of columns of a table."""
    records = split_records(text, separator)
    numbers = list(range(len(columns)))
    if head:
        if not records:
            raise InvalidText(0, "a head is expected")
        numbers = _columns_of_head(records[0], columns)
        records = records[1:]
    return [_row_of(fields, numbers, columns) for fields in records]
