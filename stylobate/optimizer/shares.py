"""Shares: for how many of the rows a condition holds, as it seems, in thousandths."""

from stylobate.optimizer.statistics import MARKS, Known
from stylobate.values.order import before, kind_rank, same

WHOLE = 1000
_UNKNOWN = 333
_DIFFERENT_OF_MISSING = 3


def rounded_up(number, divisor):
    """Return a quotient, rounded up."""
    return -(-number // divisor)


def unknown_column(different):
    """Return a column about which nothing is known but its number of different values."""
    return Known(0, different, None, None, [])


def column_at(number, columns):
    """Return what is known of a column, whether it is there or not."""
    return columns[number] if number < len(columns) else unknown_column(_DIFFERENT_OF_MISSING)


def _of_all_rows(share, known, many):
    """Return a share of the values that are not None as one of all rows."""
    if many == 0:
        return 0
    return rounded_up(share * (many - min(known.nulls, many)), many)


def _between_marks(marks_before):
    """Return the share of the values before a value that has so many marks before it."""
    return rounded_up(WHOLE * (2 * marks_before + 1), 2 * MARKS)


def _share_of_equal(known, value):
    """Return the share of the values that are this one."""
    if before(value, known.first) or before(known.last, value):
        return 0
    marks = len([mark for mark in known.marks if same(mark, value)])
    return max(rounded_up(WHOLE, known.different), WHOLE // MARKS * (marks - 1))


def _share_of_less(known, value):
    if not before(known.first, value):
        return 0
    if before(known.last, value):
        return WHOLE
    return _between_marks(len([mark for mark in known.marks if before(mark, value)]))


def _share_of_at_most(known, value):
    if before(value, known.first):
        return 0
    if not before(value, known.last):
        return WHOLE
    return _between_marks(len([mark for mark in known.marks if not before(value, mark)]))


def _beside_value(name, known, value, many):
    """Return the share of a column that is equal to, less than or at most a value."""
    if known.different == 0:
        return 0
    if not known.marks:
        return rounded_up(WHOLE, known.different) if name == "equal" else _UNKNOWN
    if kind_rank(value) != kind_rank(known.first):
        return 0
    if name == "equal":
        share = _share_of_equal(known, value)
    elif name == "less":
        share = _share_of_less(known, value)
    else:
        share = _share_of_at_most(known, value)
    return _of_all_rows(share, known, many)


def _behind_value(name, known, value, many):
    """Return the share of a column that a value is less than, or at most."""
    if known.different == 0:
        return 0
    if not known.marks:
        return _UNKNOWN
    others = "at most" if name == "less" else "less"
    return max(_of_all_rows(WHOLE, known, many) - _beside_value(others, known, value, many), 0)


def _share_of_columns(first, second):
    different = max(first.different, second.different)
    return 0 if different == 0 else rounded_up(WHOLE, different)


def _share_of_comparison(condition, many, columns):
    _, name, first, second = condition
    forms = (first[0], second[0])
    if forms == ("column", "column") and name in ("equal", "same"):
        return _share_of_columns(column_at(first[1], columns), column_at(second[1], columns))
    if forms == ("column", "constant") and name in ("equal", "less", "at most"):
        return _beside_value(name, column_at(first[1], columns), second[1], many)
    if forms == ("constant", "column") and name == "equal":
        return _beside_value(name, column_at(second[1], columns), first[1], many)
    if forms == ("constant", "column") and name in ("less", "at most"):
        return _behind_value(name, column_at(second[1], columns), first[1], many)
    return _UNKNOWN


def _share_of_nulls(known, many):
    return 0 if many == 0 else min(rounded_up(WHOLE * known.nulls, many), WHOLE)


def share_in(condition, many, columns):
    """Return the share of the rows, so many with these columns, for which a condition holds."""
    form = condition[0]
    if form == "constant":
        return WHOLE if condition[1] is True else 0
    if form == "unary" and condition[1] == "not":
        return WHOLE - share_in(condition[2], many, columns)
    if form == "unary" and condition[1] == "is null" and condition[2][0] == "column":
        return _share_of_nulls(column_at(condition[2][1], columns), many)
    if form != "binary":
        return _UNKNOWN
    _, name, first, second = condition
    if name == "and":
        return rounded_up(share_in(first, many, columns) * share_in(second, many, columns), WHOLE)
    if name == "or":
        return min(share_in(first, many, columns) + share_in(second, many, columns), WHOLE)
    return _share_of_comparison(condition, many, columns)
