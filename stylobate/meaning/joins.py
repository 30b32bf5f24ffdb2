"""Joins of two lists of rows."""

from stylobate.values.expressions import evaluate


def _pairs_of(row, value_of, right):
    """Return the rows of the pairs of a row that match."""
    return [list(row) + list(other) for other in right if value_of(row, other) is True]


def _has_pair(row, value_of, right):
    for other in right:
        if value_of(row, other) is True:
            return True
    return False


def _is_never(row, value_of, right):
    for other in right:
        if value_of(row, other) is not False:
            return False
    return True


def _rows_of_left(kind, width, row, value_of, right):
    """Return what one row of the left side gives."""
    if kind in ("inner", "left"):
        found = _pairs_of(row, value_of, right)
        if kind == "left" and not found:
            found.append(list(row) + [None] * width)
        return found
    if kind == "never":
        stays = _is_never(row, value_of, right)
    else:
        stays = _has_pair(row, value_of, right) == (kind == "some")
    return [list(row)] if stays else []


def join_by(kind, width, value_of, left, right):
    """Return the rows of a join in which the function `value_of` tells the value of a pair of rows.

    They are in the order of the left rows, each with its pairs in the order of the right rows.
    """
    found = []
    for row in left:
        found.extend(_rows_of_left(kind, width, row, value_of, right))
    return found


def join_rows(kind, width, condition, left, right):
    """Return the rows of a join by a condition, in the same order."""
    return join_by(kind, width, lambda row, other: evaluate(condition, list(row) + list(other)), left, right)
