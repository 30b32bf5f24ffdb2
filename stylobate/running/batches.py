"""Batches of rows, with selections of those that count."""

from stylobate.values.expressions import evaluate_all, holds


class Batch:
    """Rows, and the ascending list of the indexes of those that count."""

    def __init__(self, rows, selection):
        self.rows = [list(row) for row in rows]
        self.selection = list(selection)

    def chosen(self):
        """Return the list of the selected rows."""
        return [list(self.rows[index]) for index in self.selection]


def _full_batch(rows):
    return Batch(rows, list(range(len(rows))))


def into_batches(rows, batch):
    """Return the batches of a list of rows: each has exactly `batch` rows, but the last one."""
    return [_full_batch(rows[at:at + batch]) for at in range(0, len(rows), batch)]


def flat(batches):
    """Return the list of all selected rows, in order."""
    found = []
    for batch in batches:
        found.extend(batch.chosen())
    return found


def filter_batches(condition, batches):
    """Return the batches without the selection of rows for which a condition does not hold."""
    found = []
    for batch in batches:
        selection = [index for index in batch.selection if holds(condition, batch.rows[index])]
        if selection:
            found.append(Batch(batch.rows, selection))
    return found


def project_batches(expressions, batches):
    """Return for each batch the batch of the values of expressions for its selected rows."""
    return [_full_batch([evaluate_all(expressions, row) for row in batch.chosen()]) for batch in batches]


def union_batches(first, second):
    """Return the batches of one input, and then those of the other one."""
    return list(first) + list(second)
