"""Points 65 and 72: the order of rows by keys, and the cut."""

import itertools
import random
import unittest

from stylobate.meaning.order import cut_rows, in_order, row_comes_before, sorted_rows
from tests.samples import ROWS, VALUES, binary, column, constant, is_exactly, unary

UP, DOWN = (column(0), False), (column(0), True)
SECOND_UP, SECOND_DOWN = (column(1), False), (column(1), True)


class Sorting(unittest.TestCase):
    def test_without_keys(self):
        rows = ROWS[::-1]
        self.assertTrue(is_exactly(sorted_rows(rows, []), ROWS))
        self.assertTrue(is_exactly(sorted_rows(rows, ()), ROWS))
        self.assertEqual(sorted_rows([], [UP]), [])

    def test_one_key(self):
        rows = [[value] for value in VALUES]
        self.assertTrue(is_exactly(sorted_rows(rows[::-1], [UP]), rows))
        self.assertTrue(is_exactly(sorted_rows(rows, [DOWN]), rows[::-1]))
        self.assertTrue(is_exactly(sorted_rows(rows, (DOWN,)), rows[::-1]))

    def test_peers_are_in_the_order_of_rows(self):
        rows = [[1, "b"], [2, "a"], [1, "a"], [2, "b"], [1, None], [2, "a"]]
        self.assertEqual(sorted_rows(rows, [DOWN]),
                         [[2, "a"], [2, "a"], [2, "b"], [1, None], [1, "a"], [1, "b"]])
        self.assertEqual(sorted_rows(rows, [(constant(7), True)]),
                         [[1, None], [1, "a"], [1, "b"], [2, "a"], [2, "a"], [2, "b"]])

    def test_several_keys(self):
        rows = [list(pair) for pair in itertools.product([1, 2, None], ["a", "b", True])]
        self.assertEqual(sorted_rows(rows, [DOWN, SECOND_UP]),
                         [[2, True], [2, "a"], [2, "b"], [1, True], [1, "a"], [1, "b"],
                          [None, True], [None, "a"], [None, "b"]])
        self.assertEqual(sorted_rows(rows, [SECOND_DOWN, UP])[:3], [[None, "b"], [1, "b"], [2, "b"]])
        self.assertEqual(sorted_rows([[3], [-4], [1]], [(unary("abs", column(0)), True)]), [[-4], [3], [1]])

    def test_every_arrangement_gives_the_same_list(self):
        rows = [[1, True], [1, 1], [None, 0], [1, None], ["a"], [1, True]]
        for keys in ([], [UP], [DOWN], [SECOND_DOWN, UP], [(unary("is null", column(1)), True)]):
            wanted = sorted_rows(rows, keys)
            for arrangement in itertools.permutations(rows):
                self.assertTrue(is_exactly(sorted_rows(list(arrangement), keys), wanted))

    def test_the_rows_stay_as_they_are(self):
        rows = [[2], [1]]
        keys = [UP]
        found = sorted_rows(rows, keys)
        found[0].append(5)
        self.assertEqual((rows, keys), ([[2], [1]], [UP]))


class Cutting(unittest.TestCase):
    def test_cut(self):
        rows = [[k] for k in range(6)]
        for skip in range(9):
            for count in [None] + list(range(9)):
                behind = 99 if count is None else skip + count
                self.assertEqual(cut_rows(rows, skip, count), [[k] for k in range(6) if skip <= k < behind])
        found = cut_rows(rows, 0, None)
        found[0].append(1)
        found.pop()
        self.assertEqual(rows, [[k] for k in range(6)])


class Comparing(unittest.TestCase):
    def test_by_keys_alone(self):
        self.assertIs(row_comes_before([1, 2], [2, 1], [UP]), True)
        self.assertIs(row_comes_before([1, 2], [2, 1], [DOWN]), False)
        self.assertIs(row_comes_before([2, 1], [1, 2], [DOWN]), True)
        self.assertIs(row_comes_before([1, 1], [1, 2], [UP]), False)
        self.assertIs(row_comes_before([1, 2], [1, 1], [UP]), False)
        self.assertIs(row_comes_before([1, 1], [1, 2], [UP, SECOND_UP]), True)
        self.assertIs(row_comes_before([1, 1], [1, 2], [UP, SECOND_DOWN]), False)
        self.assertIs(row_comes_before([True], [1], [UP]), True)
        self.assertIs(row_comes_before([1], [True], [UP]), False)
        self.assertIs(row_comes_before([1], [2], []), False)
        self.assertIs(row_comes_before([1], [2], ()), False)

    def test_in_order(self):
        self.assertIs(in_order([1, 1], [1, 2], [UP]), True)
        self.assertIs(in_order([1, 2], [1, 1], [UP]), False)
        self.assertIs(in_order([1, 2], [1, 1], [DOWN]), False)
        self.assertIs(in_order([1, 1], [1, 1], [DOWN]), True)
        self.assertIs(in_order([2, 9], [1, 0], [DOWN]), True)
        self.assertIs(in_order([1, 0], [2, 9], [DOWN]), False)
        self.assertIs(in_order([1], [1, None], []), True)
        self.assertIs(in_order([1, None], [1], []), False)

    def test_sorted_rows_are_in_order(self):
        chance = random.Random(65)
        keys = [(binary("add", column(0), column(1)), True), SECOND_UP]
        rows = [[chance.choice([None, 0, 1, 2, True]), chance.choice([0, 1, "a", None])] for _ in range(200)]
        found = sorted_rows(rows, keys)
        for first, second in zip(found, found[1:]):
            self.assertIs(in_order(first, second, keys), True)
            self.assertIs(row_comes_before(second, first, keys), False)


if __name__ == "__main__":
    unittest.main()
