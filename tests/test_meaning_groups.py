"""Points 68 and 69: rows that fall into groups."""

import random
import unittest

from stylobate.meaning.aggregates import aggregate
from stylobate.meaning.groups import group_rows
from stylobate.values.expressions import evaluate_all
from stylobate.values.order import same_rows
from tests.samples import binary, column, constant, is_exactly

A, B = column(0), column(1)
ROWS = ("rows", None)
SUM = ("sum", B)


def slow_groups(keys, values, rows):
    """The words of the document."""
    told = []
    for row in rows:
        key = evaluate_all(keys, row)
        if not any(same_rows(key, other) for other in told):
            told.append(key)
    if not keys:
        told = [[]]
    return [key + [aggregate(value, [row for row in rows if same_rows(evaluate_all(keys, row), key)])
                   for value in values] for key in told]


class Groups(unittest.TestCase):
    def check(self, keys, values, rows, wanted):
        found = group_rows(keys, values, rows)
        self.assertTrue(is_exactly(found, wanted), found)

    def test_in_the_order_of_their_first_occurrence(self):
        rows = [[2, 1], [1, 10], [2, 2], [None, 5], [1, None], [None, None]]
        self.check((A,), (ROWS, SUM), rows, [[2, 2, 3], [1, 2, 10], [None, 2, 5]])
        self.check([A], [], rows, [[2], [1], [None]])
        self.check((B, A), (("count", A),), rows[:2], [[1, 2, 1], [10, 1, 1]])

    def test_different_values_are_different_keys(self):
        rows = [[True, 1], [1, 2], ["1", 4], [None, 8], [False, 16], [0, 32], [True, 64], [1, 128], ["", 256]]
        self.check((A,), (SUM,), rows,
                   [[True, 65], [1, 130], ["1", 4], [None, 8], [False, 16], [0, 32], ["", 256]])
        self.check((A, A), (SUM,), [[None, 1], [None, 2]], [[None, None, 3]])

    def test_without_keys(self):
        self.check((), (ROWS, SUM, ("max", A)), [], [[0, None, None]])
        self.check([], [], [], [[]])
        self.check((), (), [[1], [2]], [[]])
        self.check((), (ROWS, SUM), [[1, 2], [3, 4]], [[2, 6]])

    def test_without_rows(self):
        self.check((A,), (ROWS,), [], [])
        self.check((constant(1),), (ROWS,), [], [])

    def test_keys_are_expressions(self):
        rows = [[1, 1], [2, 2], [3, 3], [4, 4]]
        self.check((binary("rest", A, constant(2)),), (SUM,), rows, [[1, 4], [0, 6]])
        self.check((constant("x"),), (ROWS,), rows, [["x", 4]])
        self.check((column(9),), (ROWS,), rows, [[None, 4]])

    def test_rows_stay_as_they_are(self):
        rows = [[1, 2], [1, 3]]
        for row in group_rows((A,), (SUM,), rows):
            row.append(0)
        self.assertEqual(rows, [[1, 2], [1, 3]])

    def test_by_chance(self):
        chance = random.Random(69)
        values = [None, True, False, 0, 1, "a", ""]
        names = ("count", "distinct", "sum", "min", "max", "average", "every", "some", "list")
        for _ in range(200):
            rows = [[chance.choice(values) for _ in range(3)] for _ in range(chance.randrange(9))]
            keys = [column(chance.randrange(3)) for _ in range(chance.randrange(3))]
            told = [(chance.choice(names), column(chance.randrange(3))) for _ in range(chance.randrange(3))]
            self.check(keys, told, rows, slow_groups(keys, told, rows))


if __name__ == "__main__":
    unittest.main()
