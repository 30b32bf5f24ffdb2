"""Everything that an engine has, but its open transactions."""

from stylobate.errors import NameTaken, TooMany, UnknownTable
from stylobate.kept.keeper import Keeper
from stylobate.language.catalog import Catalog
from stylobate.meaning.plans import tables_of
from stylobate.optimizer.statistics import Estimate, estimate_of_rows
from stylobate.storage.tables import Table

_MOST_TABLES = 8
_MOST_NUMBERS = 100


class Slot:
    """A table at its number, and its name; one that was dropped has no name, no columns and no rows."""

    def __init__(self, name, table):
        self.name = name
        self.table = table
        self._told = None

    def told_columns(self):
        """Return the list of its columns as tuples (name, kind, nullable)."""
        return [(column.name, column.kind, column.nullable) for column in self.table.columns]

    def estimated(self):
        """Return the estimate of the table, which is made when it is asked for."""
        if self._told is None:
            self._told = estimate_of_rows(len(self.table.columns), self.table.present_rows())
        return self._told

    def forget_estimate(self):
        """Make the estimate anew when it is asked for: the rows have changed."""
        self._told = None

    def fork(self):
        """Return an equal slot that shares nothing that can be changed."""
        forked = Slot(self.name, self.table.fork())
        forked._told = self._told
        return forked


class Kept:
    """A kept answer: its query, and what keeps the rows of its plan."""

    def __init__(self, query, keeper):
        self.bound = query
        self.keeper = keeper
        self.needed = tables_of(query.plan)

    def fork(self):
        """Return an equal kept answer that shares nothing that can be changed."""
        return Kept(self.bound, self.keeper.fork())


class Text:
    """A named query or a function: its name, its text as it was given, and as it is written."""

    def __init__(self, name, text, written):
        self.name = name
        self.text = text
        self.written = written


class Store:
    """Tables by their numbers, kept answers by their names, named queries and functions in their order."""

    def __init__(self):
        self.slots = []
        self.answers = {}
        self.queries = []
        self.functions = []

    def fork(self):
        """Return an equal store that shares nothing that can be changed."""
        forked = Store()
        forked.slots = [slot.fork() for slot in self.slots]
        forked.answers = {name: self.answers[name].fork() for name in self.answers}
        forked.queries = list(self.queries)
        forked.functions = list(self.functions)
        return forked

    def number_of(self, name):
        """Return the number of a table."""
        for number, slot in enumerate(self.slots):
            if slot.name == name:
                return number
        raise UnknownTable(f"there is no table {name}")

    def slot_of(self, name):
        """Return the slot of a table."""
        return self.slots[self.number_of(name)]

    def has_table(self, name):
        """Tell whether there is a table with this name."""
        return any([slot.name == name for slot in self.slots])

    def put_table(self, name, table):
        """Put a new table behind the others."""
        if self.has_table(name) or any([query.name == name for query in self.queries]):
            raise NameTaken(f"the name is in use: {name}")
        present = [slot for slot in self.slots if slot.name is not None]
        if len(present) >= _MOST_TABLES or len(self.slots) >= _MOST_NUMBERS:
            raise TooMany("there are too many tables")
        self.slots.append(Slot(name, table))

    def take_away(self, number):
        """Take away the table with a number; the number stays."""
        self.slots[number] = Slot(None, Table([], 1))

    def tell(self, number, change):
        """Tell kept answers what changed in a table."""
        self.slots[number].forget_estimate()
        for name in self.answers:
            if number in self.answers[name].needed:
                self.answers[name].keeper.take({number: change})

    def catalog(self, parameters=()):
        """Return what a text can name."""
        tables = [(slot.name, slot.told_columns()) for slot in self.slots]
        queries = [(query.name, query.text) for query in self.queries]
        functions = [function.text for function in self.functions]
        return Catalog(tables, queries=queries, functions=functions, parameters=parameters)

    def all_tables(self):
        """Return the list of all tables by their numbers."""
        return [slot.table for slot in self.slots]

    def table_names(self):
        """Return the list of the names of all tables by their numbers."""
        return [slot.name for slot in self.slots]

    def widths(self):
        """Return the list of the numbers of columns of all tables."""
        return [len(slot.table.columns) for slot in self.slots]

    def statistics_for(self, plan):
        """Return the statistics of all tables by their numbers; of those that are not in a plan nothing is told."""
        needed = tables_of(plan)
        found = []
        for number, slot in enumerate(self.slots):
            found.append(slot.estimated() if number in needed else Estimate(0, []))
        return found

    def keeper_of(self, plan):
        """Return a new keeper of the answer of a plan over the present rows."""
        needed = tables_of(plan)
        rows = []
        for number, slot in enumerate(self.slots):
            rows.append(slot.table.present_rows() if number in needed else [])
        return Keeper(plan, rows)
