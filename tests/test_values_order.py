"""Points 8 and 9: the same, ranks, the order of values and of rows."""

import copy
import unittest

from stylobate.values.order import (before, different_rows, is_integer, kind_rank, rank, row_before,
                                    row_rank, same, same_rows)
from tests.samples import LIMIT, ROWS, VALUES, is_exactly


class Kinds(unittest.TestCase):
    def test_kind_rank(self):
        self.assertEqual([kind_rank(v) for v in (None, False, True, 0, 1, -LIMIT, "", "1")],
                         [0, 1, 1, 2, 2, 2, 3, 3])

    def test_is_integer(self):
        self.assertEqual([is_integer(v) for v in (0, 1, -5, 10 ** 40)], [True] * 4)
        self.assertEqual([is_integer(v) for v in (True, False, None, "1", "")], [False] * 5)


class Ranks(unittest.TestCase):
    def test_ranks(self):
        wanted = [(0, 0), (1, 0), (1, 1), (2, 0), (2, 1), (2, -LIMIT), (3, ""), (3, "a b")]
        given = [rank(v) for v in (None, False, True, 0, 1, -LIMIT, "", "a b")]
        self.assertTrue(is_exactly(given, wanted), given)

    def test_row_rank(self):
        self.assertEqual(row_rank([]), ())
        self.assertEqual(row_rank([None, True, 7, "x"]), ((0, 0), (1, 1), (2, 7), (3, "x")))


class Values(unittest.TestCase):
    def test_every_pair(self):
        for i, first in enumerate(VALUES):
            for j, second in enumerate(VALUES):
                with self.subTest(first=first, second=second):
                    self.assertIs(same(first, second), i == j)
                    self.assertIs(before(first, second), i < j)
                    self.assertIs(rank(first) < rank(second), i < j)

    def test_a_boolean_is_no_integer(self):
        self.assertIs(same(True, 1), False)
        self.assertIs(same(0, False), False)
        self.assertIs(same(True, True), True)
        self.assertIs(before(True, -LIMIT), True)
        self.assertIs(before(1, True), False)


class Rows(unittest.TestCase):
    def test_every_pair(self):
        for i, first in enumerate(ROWS):
            for j, second in enumerate(ROWS):
                with self.subTest(first=first, second=second):
                    self.assertIs(same_rows(first, second), i == j)
                    self.assertIs(row_before(first, second), i < j)

    def test_same_rows_look_at_kinds(self):
        self.assertIs(same_rows([1, 0], [True, 0]), False)
        self.assertIs(same_rows([1, 0], [1, False]), False)
        self.assertIs(same_rows(["a", None, True], ["a", None, True]), True)

    def test_different_rows(self):
        rows = [[1], [True], [1], [None], [True], [1, None], [], ["1"], [], [0], [False], [1]]
        held = copy.deepcopy(rows)
        found = different_rows(rows)
        wanted = [[1], [True], [None], [1, None], [], ["1"], [0], [False]]
        self.assertTrue(is_exactly(found, wanted), found)
        found[0].append(9)
        found.append([3])
        self.assertTrue(is_exactly(rows, held), rows)
        self.assertEqual(different_rows([]), [])


if __name__ == "__main__":
    unittest.main()
