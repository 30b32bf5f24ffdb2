"""The order of rows by keys, and the cut."""

from stylobate.values.expressions import evaluate
from stylobate.values.order import before, rank, row_rank, same


def _sorted_by(rows, key):
    """Return the rows in the order of one key; those with equal values stay as they are."""
    expression, descending = key
    ranked = [(rank(evaluate(expression, row)), row) for row in rows]
    if descending:
        ranked = sorted(ranked, key=lambda pair: pair[0], reverse=True)
    else:
        ranked = sorted(ranked, key=lambda pair: pair[0])
    return [row for _, row in ranked]


def sorted_rows(rows, keys):
    """Return the rows in the order of the keys, and peers in the order of rows."""
    ranked = sorted([(row_rank(row), list(row)) for row in rows], key=lambda pair: pair[0])
    found = [row for _, row in ranked]
    # The sort keeps the order of equal ones, so the most important key comes last.
    for at in range(len(keys)):
        found = _sorted_by(found, keys[len(keys) - 1 - at])
    return found


def cut_rows(rows, skip, count):
    """Return the rows without the first ones, at most `count` of the others (all, if it is None)."""
    behind = len(rows) if count is None else skip + count
    return [list(row) for row in rows[skip:behind]]


def _tells_apart(first, second, keys):
    """Return -1 or 1 if the keys put the first row before or behind the second, otherwise 0."""
    for expression, descending in keys:
        one = evaluate(expression, first)
        other = evaluate(expression, second)
        if not same(one, other):
            return -1 if before(one, other) != descending else 1
    return 0


def row_comes_before(first, second, keys):
    """Tell whether the first row comes before the second by the keys alone."""
    return _tells_apart(first, second, keys) < 0


def in_order(first, second, keys):
    """Tell whether the first row does not come behind the second."""
    told = _tells_apart(first, second, keys)
    if told != 0:
        return told < 0
    return row_rank(first) <= row_rank(second)
