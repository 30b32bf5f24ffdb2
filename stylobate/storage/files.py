"""Tables as octets, and octets as tables."""

from stylobate.errors import InvalidFile
from stylobate.storage.checking import group_in_order
from stylobate.storage.reading import Source, next_group
from stylobate.storage.tables import Column, Table, row_fits
from stylobate.storage.writing import (
    checksum, column_octets, marks_octets, number_octets, text_octets, values_octets,
)
from stylobate.values.kinds import KINDS

_MARK = (67, 76, 78, 49)
_MOST_COLUMNS = 12
_MOST_NAME = 40
_MOST_SIZE = 1000
_MOST_ROWS = 20000


def _group_octets(group):
    found = number_octets(group.many) + marks_octets(group.dead)
    for encoded in group.columns:
        found.extend(column_octets(encoded))
    return found


def _checksum_octets(octets):
    number = checksum(octets)
    return [(number >> (8 * at)) & 255 for at in range(4)]


def write_table(table):
    """Return the list of the octets of a table."""
    found = list(_MARK) + number_octets(len(table.columns))
    for column in table.columns:
        found.extend(text_octets(column.name))
        found.extend([KINDS.index(column.kind), 1 if column.nullable else 0])
    found.extend(number_octets(table.size))
    found.extend(number_octets(len(table.groups)))
    for group in table.groups:
        found.extend(_group_octets(group))
    found.extend(number_octets(len(table.buffer)))
    for row in table.buffer:
        found.extend(values_octets(row))
    return found + _checksum_octets(found)


def _columns_in_order(columns):
    names = [column.name for column in columns]
    if not 1 <= len(names) <= _MOST_COLUMNS or len({name: True for name in names}) != len(names):
        return False
    return all([1 <= len(name) <= _MOST_NAME for name in names])


def in_order(table):
    """Tell whether a table is in order, so that its octets can be read."""
    if not _columns_in_order(table.columns) or not 1 <= table.size <= _MOST_SIZE:
        return False
    if table.stored() > _MOST_ROWS or len(table.buffer) >= table.size:
        return False
    if not all([row_fits(table.columns, row) for row in table.buffer]):
        return False
    return all([group_in_order(group, table.columns, table.size) for group in table.groups])


def _next_columns(source):
    columns = []
    for _ in range(source.next_count()):
        name = source.next_text()
        kind = KINDS[source.next_below(len(KINDS))]
        columns.append(Column(name, kind, source.next_below(2) == 1))
    # Without columns rows take no octets, and there could be any number of them.
    if not columns:
        raise InvalidFile("there are no columns")
    return columns


def _next_table(source):
    """Return the table whose octets are read; whether it is in order is not looked at."""
    columns = _next_columns(source)
    table = Table(columns, source.next_number())
    for _ in range(source.next_count()):
        table.groups.append(next_group(source, len(columns)))
    for _ in range(source.next_count()):
        table.buffer.append(list(source.next_values(len(columns))))
    return table


def read_table(octets):
    """Return the table of a list of octets."""
    if not all([0 <= octet <= 255 for octet in octets]):
        raise InvalidFile("these are not octets")
    body = octets[:-4]
    if body[:4] != list(_MARK) or octets[-4:] != _checksum_octets(body):
        raise InvalidFile("these are not the octets of a table")
    source = Source(body[4:])
    table = _next_table(source)
    if source.left() > 0 or not in_order(table):
        raise InvalidFile("the table is not in order")
    return table
