"""The order of values and of rows."""


def kind_rank(value):
    """Return 0 for None, 1 for a boolean, 2 for an integer, 3 for a string."""
    if value is None:
        return 0
    if isinstance(value, bool):
        return 1
    if isinstance(value, int):
        return 2
    return 3


def is_integer(value):
    """Tell whether the value is an integer and no boolean."""
    return isinstance(value, int) and not isinstance(value, bool)


def rank(value):
    """Return the tuple that compares as the value does."""
    kind = kind_rank(value)
    if kind == 0:
        return (0, 0)
    if kind == 1:
        return (1, int(value))
    return (kind, value)


def row_rank(row):
    """Return the tuple of the ranks of the values of a row."""
    return tuple([rank(value) for value in row])


def same(first, second):
    """Tell whether two values are the same; a boolean is never an integer."""
    return rank(first) == rank(second)


def same_rows(first, second):
    """Tell whether two rows have the same length and the same values."""
    return row_rank(first) == row_rank(second)


def before(first, second):
    """Tell whether the first value comes before the second."""
    return rank(first) < rank(second)


def row_before(first, second):
    """Tell whether the first row comes before the second."""
    return row_rank(first) < row_rank(second)


def different_rows(rows):
    """Return the rows without repetitions, each one where it first occurs."""
    seen = {}
    found = []
    for row in rows:
        key = row_rank(row)
        if key not in seen:
            seen[key] = True
            found.append(list(row))
    return found
