"""Joins of two lists of rows."""

from stylobate.values.expressions import evaluate, holds


def _pairs_of(row, condition, right):
    """Return the rows of the pairs of a row for which the condition holds."""
    found = []
    for other in right:
        pair = list(row) + list(other)
        if holds(condition, pair):
            found.append(pair)
    return found


def _has_pair(row, condition, right):
    for other in right:
        if holds(condition, list(row) + list(other)):
            return True
    return False


def _is_never(row, condition, right):
    for other in right:
        if evaluate(condition, list(row) + list(other)) is not False:
            return False
    return True


def _rows_of_left(kind, width, row, condition, right):
    """Return what one row of the left side gives."""
    if kind in ("inner", "left"):
        found = _pairs_of(row, condition, right)
        if kind == "left" and not found:
            found.append(list(row) + [None] * width)
        return found
    if kind == "never":
        stays = _is_never(row, condition, right)
    else:
        stays = _has_pair(row, condition, right) == (kind == "some")
    return [list(row)] if stays else []


def join_rows(kind, width, condition, left, right):
    """Return the rows of a join, in the order of the left rows, then of the right ones."""
    found = []
    for row in left:
        found.extend(_rows_of_left(kind, width, row, condition, right))
    return found
