"""Rows written as texts with separators."""

from stylobate.values.days import date_text
from stylobate.values.decimals import decimal_text


def _value_text(value, kind):
    """Return the text of a value other than None."""
    if kind == "bool":
        return "true" if value else "false"
    if kind == "date":
        return date_text(value)
    if kind == "decimal":
        return decimal_text(value)
    return str(value)


def _field(text, separator):
    """Return the field of a text, between quotation marks if it needs them."""
    if text != "" and separator not in text and "\"" not in text and "\n" not in text:
        return text
    return "\"" + text.replace("\"", "\"\"") + "\""


def _value_field(value, kind, separator):
    return "" if value is None else _field(_value_text(value, kind), separator)


def write_separated(columns, rows, *, separator=",", head=True):
    """Return the text of a list of rows, for a list of the names and kinds of their columns."""
    records = []
    if head:
        records.append([_field(name, separator) for name, _ in columns])
    for row in rows:
        records.append([_value_field(value, kind, separator) for value, (_, kind) in zip(row, columns)])
    return "".join([separator.join(record) + "\n" for record in records])
