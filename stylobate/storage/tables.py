"""Tables: groups of encoded columns, and a buffer of the newest rows."""

from stylobate.meaning.order import sorted_rows
from stylobate.storage.groups import make_group
from stylobate.storage.zones import may_hold
from stylobate.values.expressions import holds
from stylobate.values.kinds import fits


class Column:
    """A column of a table: its name, its kind, and whether it can be None."""

    def __init__(self, name, kind, nullable):
        self.name = name
        self.kind = kind
        self.nullable = nullable

    def takes(self, value):
        """Tell whether a value fits the column."""
        return self.nullable if value is None else fits(value, self.kind)

    def __eq__(self, other):
        if not isinstance(other, Column):
            return False
        return self.name == other.name and self.kind == other.kind and self.nullable == other.nullable


def row_fits(columns, row):
    """Tell whether a row fits a list of columns."""
    if len(row) != len(columns):
        return False
    return all([column.takes(value) for column, value in zip(columns, row)])


class Table:
    """Columns, a group size, groups, and a buffer of fewer rows than the group size."""

    def __init__(self, columns, size):
        self.columns = [Column(column.name, column.kind, column.nullable) for column in columns]
        self.size = size
        self.groups = []
        self.buffer = []

    def present_rows(self):
        """Return the list of the rows: the live ones of the groups, then those of the buffer."""
        found = []
        for group in self.groups:
            found.extend(group.live_rows())
        found.extend([list(row) for row in self.buffer])
        return found

    def stored(self):
        """Return how many rows are in the groups and the buffer, deleted ones included."""
        return sum([group.many for group in self.groups]) + len(self.buffer)

    @property
    def live(self):
        """The number of the rows."""
        return sum([group.live for group in self.groups]) + len(self.buffer)

    def _groups_of(self, rows):
        """Return the groups of the group size that rows make, the last one of those that are left."""
        width = len(self.columns)
        return [make_group(width, rows[at:at + self.size]) for at in range(0, len(rows), self.size)]

    def insert(self, rows):
        """Put rows behind those of the buffer; as often as it is full, its first rows become a group."""
        waiting = self.buffer + [list(row) for row in rows]
        full = len(waiting) - len(waiting) % self.size
        self.groups.extend(self._groups_of(waiting[:full]))
        self.buffer = waiting[full:]

    def delete(self, condition):
        """Remove the rows for which a condition holds, and return how many these were."""
        many = 0
        for group in self.groups:
            if may_hold(condition, group.zones()):
                many += group.mark(condition)
        kept = [row for row in self.buffer if not holds(condition, row)]
        many += len(self.buffer) - len(kept)
        self.buffer = kept
        return many

    def flush(self):
        """Make the rows of the buffer a group."""
        self.groups.extend(self._groups_of(self.buffer))
        self.buffer = []

    def _runs(self):
        """Return the runs of neighboring groups that merge brings together."""
        runs = []
        live = 0
        for group in reversed(self.groups):
            if runs and live + group.live <= self.size:
                runs[-1].append(group)
                live += group.live
            else:
                runs.append([group])
                live = group.live
        return [run[::-1] for run in reversed(runs)]

    def merge(self):
        """Make one group of neighboring ones that have few live rows, without the deleted rows."""
        merged = []
        for run in self._runs():
            if len(run) == 1 and run[0].live == run[0].many:
                merged.append(run[0])
            else:
                rows = [row for group in run for row in group.live_rows()]
                merged.extend(self._groups_of(rows))
        self.groups = merged

    def encode_again(self, group, column, form):
        """Give a column of a group a form; return False, and change nothing, if it is not possible."""
        if group >= len(self.groups) or column >= len(self.columns):
            return False
        return self.groups[group].encode_again(form, column)

    def cluster(self, keys):
        """Put all rows into new groups, in the order of columns (number, descending), then of rows."""
        order = [(("column", number), descending) for number, descending in keys]
        rows = sorted_rows(self.present_rows(), order)
        self.groups = self._groups_of(rows)
        self.buffer = []

    def fork(self):
        """Return an equal table that shares nothing that can be changed."""
        forked = Table(self.columns, self.size)
        forked.groups = [group.fork() for group in self.groups]
        forked.buffer = [list(row) for row in self.buffer]
        return forked
