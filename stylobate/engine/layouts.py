"""Tables that are created, dropped, saved and restored, and how their rows are laid out."""

from stylobate.engine.checking import check_columns, check_name, check_size
from stylobate.engine.deeds import column_numbers
from stylobate.errors import InvalidEncoding, TableInUse, UnknownGroup
from stylobate.storage.columns import column_size
from stylobate.storage.files import read_table
from stylobate.storage.tables import Column, Table


def create_table(store, name, columns, size):
    """Make an empty table."""
    check_name(name)
    check_columns(columns)
    check_size(size)
    store.put_table(name, Table([Column(word, kind, nullable) for word, kind, nullable in columns], size))


def restore_table(store, name, octets):
    """Make a table of octets."""
    check_name(name)
    store.put_table(name, read_table(octets))


def drop_table(store, name):
    """Remove a table that no kept answer uses."""
    number = store.number_of(name)
    for kept in list(store.answers.values()):
        if number in kept.needed:
            raise TableInUse(f"a kept answer uses the table {name}")
    store.take_away(number)


def cluster_table(store, name, keys):
    """Put all rows of a table into new groups, in the order of columns (name, descending)."""
    table = store.slot_of(name).table
    numbers = column_numbers(table, [column for column, _ in keys])
    table.cluster([(number, descending) for number, (_, descending) in zip(numbers, keys)])


def reencode_column(store, name, group, column, form):
    """Give a column of a group a form."""
    table = store.slot_of(name).table
    number = column_numbers(table, [column])[0]
    if not 0 <= group < len(table.groups):
        raise UnknownGroup(f"there is no group {group}")
    if not table.encode_again(group, number, form):
        raise InvalidEncoding(f"the column cannot be encoded in the form {form}")


def _told_group(group):
    columns = []
    for encoded, zone in zip(group.columns, group.zones()):
        columns.append((encoded.form, column_size(encoded), zone.nulls, zone.least, zone.greatest))
    return {"rows": group.many, "live": group.live, "columns": columns}


def told_layout(store, name):
    """Return a dict that describes how the rows of a table are laid out."""
    table = store.slot_of(name).table
    groups = [_told_group(group) for group in table.groups]
    return {"size": table.size, "buffer": len(table.buffer), "groups": groups}
