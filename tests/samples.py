"""Values and rows that several tests use."""

LIMIT = 10 ** 15

# In ascending order, all different.
VALUES = [
    None, False, True, -10 ** 40, -LIMIT - 1, -LIMIT, -1, 0, 1, 2, LIMIT, LIMIT + 1, 10 ** 40,
    "", " ", "0", "A", "Ab", "B", "a", "aa", "ab", "b", "~",
]

# In ascending order, all different.
ROWS = [
    [], [None], [None, None], [None, 5], [False], [False, "z"], [True], [True, 0], [0], [0, None],
    [0, False], [0, 0], [1], [1, "a"], [1, "ab"], [2], ["", 1], ["a"], ["a", "a"], ["ab"],
]


def column(number):
    return ("column", number)


def constant(value):
    return ("constant", value)


def unary(name, one):
    return ("unary", name, one)


def binary(name, one, two):
    return ("binary", name, one, two)


def ternary(name, one, two, three):
    return ("ternary", name, one, two, three)


def choice(condition, one, two):
    return ("choice", condition, one, two)


def is_exactly(first, second):
    """Tell whether two nested values are equal, with True and 1 apart."""
    return repr(first) == repr(second)
