"""Groups of rows, kept as encoded columns."""

from stylobate.storage.columns import Encoded, encode_as, encode_column
from stylobate.storage.zones import zone_of
from stylobate.values.expressions import holds


class Group:
    """A list of encoded columns, a number of rows, and a mark for each row that is deleted."""

    def __init__(self, columns, many, dead):
        self.columns = [Encoded(column.length, column.mask, column.body) for column in columns]
        self.many = many
        self.dead = list(dead)
        self._zones = None

    def every_row(self):
        """Return the list of all rows, deleted ones included."""
        columns = [column.decoded() for column in self.columns]
        return [[values[at] for values in columns] for at in range(self.many)]

    def live_rows(self):
        """Return the list of the rows that are not deleted."""
        return [row for row, dead in zip(self.every_row(), self.dead) if not dead]

    @property
    def live(self):
        """The number of rows that are not deleted."""
        return len([dead for dead in self.dead if not dead])

    def zones(self):
        """Return the list of the zones of the columns."""
        # They never change: the columns keep their values, also those of deleted rows.
        if self._zones is None:
            self._zones = [zone_of(column.decoded()) for column in self.columns]
        return list(self._zones)

    def mark(self, condition):
        """Mark the rows for which a condition holds, and return how many were not yet marked."""
        many = 0
        for at, row in enumerate(self.every_row()):
            if not self.dead[at] and holds(condition, row):
                self.dead[at] = True
                many += 1
        return many

    def encode_again(self, form, number):
        """Give a column another form; return False, and change nothing, if it is not possible."""
        encoded = encode_as(form, self.columns[number].decoded())
        if encoded is None:
            return False
        self.columns[number] = encoded
        return True

    def fork(self):
        """Return an equal group that shares nothing that can be changed."""
        forked = Group(self.columns, self.many, self.dead)
        forked._zones = self._zones
        return forked


def make_group(width, rows):
    """Return the group of a list of rows of so many values each."""
    columns = [encode_column([row[number] for row in rows]) for number in range(width)]
    return Group(columns, len(rows), [False] * len(rows))
