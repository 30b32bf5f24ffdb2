"""Statistics of tables: what is known of their columns."""

from stylobate.values.order import rank

MARKS = 8


class Known:
    """What is known of a column: how many Nones and different other values it has, which of these are
    the first and the last one, and its marks."""

    def __init__(self, nulls, different, first, last, marks):
        self.nulls = nulls
        self.different = different
        self.first = first
        self.last = last
        self.marks = list(marks)


class Estimate:
    """A number of rows, and what is known of each column."""

    def __init__(self, many, columns):
        self.many = many
        self.columns = list(columns)


def known_of(column):
    """Return what is known of the list of the values of a column."""
    present = sorted([value for value in column if value is not None], key=rank)
    nulls = len(column) - len(present)
    if not present:
        return Known(nulls, 0, None, None, [])
    different = len({rank(value): True for value in present})
    # The places are counted from 1, and rounded up.
    places = [(number * len(present) + MARKS - 1) // MARKS for number in range(1, MARKS + 1)]
    return Known(nulls, different, present[0], present[-1], [present[place - 1] for place in places])


def estimate_of_rows(width, rows):
    """Return the estimate of a list of rows of so many values."""
    return Estimate(len(rows), [known_of([row[number] for row in rows]) for number in range(width)])


def statistics_of(widths, tables):
    """Return the list of the estimates of the tables, each a list of rows."""
    return [estimate_of_rows(width, rows) for width, rows in zip(widths, tables)]
