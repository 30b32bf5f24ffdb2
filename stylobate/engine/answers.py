"""What the engine answers."""

from stylobate.errors import UnknownColumn


class Answer:
    """The rows of an answer, the names and kinds of its columns, and the counters of the run.

    The counters are a tuple: groups read, groups skipped, batches, rows written.
    """

    def __init__(self, names, kinds, rows, counters):
        self.names = list(names)
        self.kinds = list(kinds)
        self.rows = [list(row) for row in rows]
        self.counters = counters

    def __iter__(self):
        return iter(self.rows)

    def __len__(self):
        return len(self.rows)

    def column(self, name):
        """Return the list of the values of the first column with this name."""
        if name not in self.names:
            raise UnknownColumn(f"there is no column {name}")
        number = self.names.index(name)
        return [row[number] for row in self.rows]


class Step:
    """What a profile tells of an operator: its line and depth, the expected rows and the expected cost,
    the rows that it gave, what it needs, and its own counters."""

    def __init__(self, line, depth, expected, cost, given, needs, counters):
        self.line = line
        self.depth = depth
        self.expected = expected
        self.cost = cost
        self.given = given
        self.needs = needs
        self.counters = counters
