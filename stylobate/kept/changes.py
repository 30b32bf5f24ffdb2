"""Changes of bags of rows: which rows go, and which come."""

from stylobate.values.order import row_rank


def _how_often(rows):
    """Return how many times each row is there, by its rank."""
    found = {}
    for row in rows:
        key = row_rank(row)
        found[key] = found.get(key, 0) + 1
    return found


def _without_last(rows, many):
    """Return the rows without the last ones of those that are repeated: for each rank so many as are told."""
    left = _how_often(rows)
    kept = []
    for row in rows:
        key = row_rank(row)
        if left[key] > many.get(key, 0):
            kept.append(row)
        left[key] -= 1
    return kept


def _without_first(rows, many):
    """Return the rows without the first ones of those that are repeated: for each rank so many as are told."""
    left = {key: many[key] for key in many}
    kept = []
    for row in rows:
        key = row_rank(row)
        if left.get(key, 0) > 0:
            left[key] -= 1
        else:
            kept.append(row)
    return kept


class Change:
    """The rows that go, and the rows that come."""

    def __init__(self, gone, come):
        self.gone = [list(row) for row in gone]
        self.come = [list(row) for row in come]

    def small(self):
        """Return the change without rows that go and come, as many times as they do both."""
        gone, come = _how_often(self.gone), _how_often(self.come)
        both = {key: min(gone[key], come[key]) for key in gone if key in come}
        return Change(_without_last(self.gone, both), _without_last(self.come, both))

    @property
    def nothing(self):
        """Whether no row goes or comes."""
        return not self.gone and not self.come


def changed_rows(rows, change):
    """Return the rows without those that go, the first ones of repeated rows, and with those that come behind."""
    kept = _without_first(rows, _how_often(change.gone))
    return [list(row) for row in kept + change.come]
