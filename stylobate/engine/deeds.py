"""Deeds: rows of tables that are inserted, removed and updated."""

from stylobate.engine.checking import check_separator
from stylobate.engine.given import held_rows
from stylobate.errors import InvalidRow, TableFull, UnknownColumn
from stylobate.kept.changes import Change
from stylobate.language.values_of import bind_condition, bind_value
from stylobate.separated.reading import read_separated
from stylobate.storage.tables import row_fits
from stylobate.values.expressions import evaluate, holds

_MOST_ROWS = 20000


def column_numbers(table, names):
    """Return the list of the numbers of columns of a table; there is at least one, and none comes twice."""
    known = [column.name for column in table.columns]
    if not names:
        raise UnknownColumn("no column is named")
    numbers = []
    for name in names:
        if name not in known or known.index(name) in numbers:
            raise UnknownColumn(f"there is no column {name}, or it is named twice")
        numbers.append(known.index(name))
    return numbers


def _check_room(many):
    if many > _MOST_ROWS:
        raise TableFull(f"a table has at most {_MOST_ROWS} rows")


def _put_in(store, number, rows):
    """Insert rows that fit; return how many they are."""
    table = store.slots[number].table
    _check_room(table.stored() + len(rows))
    table.insert(rows)
    store.tell(number, Change([], rows))
    return len(rows)


def insert_rows(store, name, rows):
    """Insert rows that are given; return how many they are."""
    number = store.number_of(name)
    return _put_in(store, number, held_rows(rows, store.slots[number].table.columns))


def load_rows(store, name, text, separator, head):
    """Insert the rows of a text with separators; return how many they are."""
    number = store.number_of(name)
    check_separator(separator)
    columns = store.slots[number].table.columns
    return _put_in(store, number, read_separated(text, columns, separator=separator, head=head))


def _holding(condition, rows):
    return [row for row in rows if holds(condition, row)]


def remove_rows(store, name, text):
    """Delete the rows for which a condition holds; return how many they are."""
    number = store.number_of(name)
    slot = store.slots[number]
    condition = bind_condition(text, store.catalog(), slot.told_columns())
    gone = _holding(condition, slot.table.present_rows())
    slot.table.delete(condition)
    store.tell(number, Change(gone, []))
    return len(gone)


def _new_row(row, numbers, expressions):
    """Return a row with the values of expressions in it at these columns."""
    found = list(row)
    for number, expression in zip(numbers, expressions):
        found[number] = evaluate(expression, row)
    return found


def update_rows(store, name, changes, text):
    """Change the rows for which a condition holds; return how many they are."""
    at = store.number_of(name)
    slot = store.slots[at]
    table = slot.table
    numbers = column_numbers(table, [column for column, _ in changes])
    catalog, told = store.catalog(), slot.told_columns()
    expressions = []
    for number, (_, value) in zip(numbers, changes):
        expressions.append(bind_value(value, table.columns[number].kind, catalog, told))
    condition = bind_condition(text, catalog, told)
    old = _holding(condition, table.present_rows())
    new = [_new_row(row, numbers, expressions) for row in old]
    for place, row in enumerate(new):
        if not row_fits(table.columns, row):
            raise InvalidRow(place)
    # Rows that are deleted leave the buffer, but stay in groups.
    _check_room(table.stored() - len(_holding(condition, table.buffer)) + len(new))
    table.delete(condition)
    table.insert(new)
    store.tell(at, Change(old, new))
    return len(new)


def do_deed(store, deed):
    """Do an insert, a removal or an update; return how many rows it changed."""
    if deed[0] == "insert":
        return insert_rows(store, deed[1], deed[2])
    if deed[0] == "remove":
        return remove_rows(store, deed[1], deed[2])
    return update_rows(store, deed[1], deed[2], deed[3])
