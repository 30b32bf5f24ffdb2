"""The engine."""

from stylobate.engine.asking import answer_query, explain_query, export_query, profile_query
from stylobate.engine.checking import check_separator, checked_options
from stylobate.engine.deeds import do_deed, insert_rows, load_rows, remove_rows, update_rows
from stylobate.engine.layouts import (
    cluster_table, create_table, drop_table, reencode_column, restore_table, told_layout,
)
from stylobate.engine.naming import (
    all_names, forget_answer, keep_answer, kept_answer, put_function, put_query, take_name,
)
from stylobate.engine.store import Store
from stylobate.errors import NoTransaction, TooMany
from stylobate.language.queries import bind_query
from stylobate.storage.files import write_table

_MOST_TRANSACTIONS = 8


class Engine:
    """Tables, kept answers, named queries and functions, and open transactions."""

    def __init__(self):
        self._store = Store()
        self._remembered = []

    def create(self, name, columns, size):
        """Make an empty table of columns (name, kind, nullable) with a group size."""
        create_table(self._store, name, columns, size)

    def drop(self, name):
        """Remove a table."""
        drop_table(self._store, name)

    def insert(self, name, rows):
        """Put rows into a table, in order; return how many they are."""
        return insert_rows(self._store, name, rows)

    def load(self, name, text, *, separator=",", head=True):
        """Put the rows of a text with separators into a table; return how many they are."""
        return load_rows(self._store, name, text, separator, head)

    def remove(self, name, condition):
        """Delete the rows of a table for which a condition holds; return how many they are."""
        return remove_rows(self._store, name, condition)

    def update(self, name, changes, condition):
        """Change columns (name, text of a value) of the rows for which a condition holds; return how many they are."""
        return update_rows(self._store, name, changes, condition)

    def flush(self, name):
        """Make the rows of the buffer of a table a group."""
        self._store.slot_of(name).table.flush()

    def merge(self, name):
        """Make one group of neighboring ones of a table that have few rows."""
        self._store.slot_of(name).table.merge()

    def cluster(self, name, keys):
        """Put all rows of a table into new groups, in the order of columns (name, descending)."""
        cluster_table(self._store, name, keys)

    def reencode(self, name, group, column, form):
        """Give a column of a group of a table a form."""
        reencode_column(self._store, name, group, column, form)

    def layout(self, name):
        """Return a dict that describes how the rows of a table are laid out."""
        return told_layout(self._store, name)

    def save(self, name):
        """Return the list of the octets of a table."""
        return write_table(self._store.slot_of(name).table)

    def restore(self, name, octets):
        """Make a table of octets, under a name."""
        restore_table(self._store, name, octets)

    def query(self, text, *, parameters=(), batch=64, memory=1024, choices=(), moves=None):
        """Return the answer of a query."""
        options = checked_options(parameters, batch, memory, choices, moves)
        return answer_query(self._store, text, options)

    def export(self, text, *, separator=",", head=True, parameters=(), batch=64, memory=1024, choices=(), moves=None):
        """Return the answer of a query as a text with separators."""
        check_separator(separator)
        options = checked_options(parameters, batch, memory, choices, moves)
        return export_query(self._store, text, separator, head, options)

    def explain(self, text, *, parameters=(), choices=(), moves=None):
        """Return a dict of the lines of the plan of a query, its moves, and its physical plan."""
        options = checked_options(parameters, 1, 1, choices, moves)
        return explain_query(self._store, text, options)

    def profile(self, text, *, parameters=(), batch=64, memory=1024, choices=(), moves=None):
        """Return the list of the steps of all operators of the physical plan of a query."""
        options = checked_options(parameters, batch, memory, choices, moves)
        return profile_query(self._store, text, options)

    def keep(self, name, text):
        """Keep the answer of a query."""
        keep_answer(self._store, name, text)

    def kept(self, name):
        """Return a kept answer over the present rows."""
        return kept_answer(self._store, name)

    def forget(self, name):
        """Remove a kept answer."""
        forget_answer(self._store, name)

    def name_query(self, name, text):
        """Give a name to a query, or to another one in its place."""
        put_query(self._store, name, text)

    def define(self, text):
        """Add a function; return its name."""
        return put_function(self._store, text)

    def undefine(self, name):
        """Remove the named query and the function with a name."""
        take_name(self._store, name)

    def names(self):
        """Return a dict of the tables, kept answers, named queries and functions."""
        return all_names(self._store)

    def begin(self):
        """Remember everything that there is."""
        if len(self._remembered) >= _MOST_TRANSACTIONS:
            raise TooMany("there are too many open transactions")
        self._remembered.append(self._store.fork())

    def commit(self):
        """Forget what was remembered last."""
        self._take_remembered()

    def rollback(self):
        """Bring back what was remembered last."""
        self._store = self._take_remembered()

    def _take_remembered(self):
        if not self._remembered:
            raise NoTransaction("no transaction is open")
        return self._remembered.pop()

    def apply_all(self, deeds):
        """Do a list of inserts, removals and updates, all or none of them; return what each of them returns."""
        # An error leaves the store as it is: the deeds are done on a fork of it.
        forked = self._store.fork()
        told = [do_deed(forked, deed) for deed in deeds]
        self._store = forked
        return told

    @property
    def open_transactions(self):
        """The number of open transactions."""
        return len(self._remembered)

    def plan_of(self, text):
        """Return the Query of a text without parameters, as it is bound now."""
        return bind_query(text, self._store.catalog())

    def rows_of_tables(self):
        """Return the list of the lists of the rows of all tables, by their numbers."""
        return [table.present_rows() for table in self._store.all_tables()]
