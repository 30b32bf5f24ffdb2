"""Points 107 and 108: rows sorted with a bounded memory, and top."""

import itertools
import random
import unittest

from stylobate.meaning.order import cut_rows, sorted_rows
from stylobate.running.sorting import merge_runs, sort_rows, sort_written, top_rows, top_written
from tests.samples import VALUES, binary, column, constant, is_exactly, unary

A, B = column(0), column(1)
KEYS = [[], [(A, False)], [(A, True)], [(A, True), (B, False)], [(unary("is null", A), True), (B, True)],
        [(binary("add", A, B), True)], [(constant(1), True)]]


def lists():
    chance = random.Random(107)
    yield []
    yield [[1, 2]]
    yield [[value, 0] for value in VALUES]
    yield [[value, 0] for value in VALUES[::-1]]
    yield [[1, 1]] * 6
    for many in range(2, 14):
        yield [[chance.choice([None, True, 1, 2, "a", ""]), chance.choice([None, 0, 1, "b"])] for _ in range(many)]


class Sorting(unittest.TestCase):
    def test_with_every_memory(self):
        for rows, keys in itertools.product(lists(), KEYS):
            kept = [list(row) for row in rows]
            wanted = sorted_rows(rows, keys)
            for memory in list(range(1, len(rows) + 3)) + [1000]:
                self.assertTrue(is_exactly(sort_rows(rows, keys, memory), wanted), (rows, keys, memory))
                self.assertTrue(is_exactly(sort_rows(rows, tuple(keys), memory), wanted))
            self.assertTrue(is_exactly(rows, kept))

    def test_what_is_counted(self):
        rows = [[number] for number in range(5)]
        self.assertEqual([sort_written(rows, memory) for memory in range(1, 8)], [5, 5, 5, 5, 0, 0, 0])
        self.assertEqual(sort_written([], 1), 0)
        self.assertEqual(sort_written([[1]], 1), 0)
        self.assertEqual(sort_written([[1], [1]], 1), 2)

    def test_runs_are_merged(self):
        for rows, keys in itertools.product(lists(), KEYS):
            wanted = sorted_rows(rows, keys)
            for many in range(1, 6):
                runs = [sorted_rows(rows[at::many], keys) for at in range(many)]
                self.assertTrue(is_exactly(merge_runs(runs, keys), wanted), (runs, keys))
        self.assertEqual(merge_runs([], []), [])
        self.assertEqual(merge_runs([[], []], [(A, True)]), [])
        self.assertEqual(merge_runs([[[2]], [], [[1], [3]]], [(A, False)]), [[1], [2], [3]])
        self.assertEqual(merge_runs([[[2], [1]]], [(A, True)]), [[2], [1]])

    def test_rows_are_new(self):
        rows = [[2], [1]]
        for memory in (1, 5):
            sort_rows(rows, [], memory)[0].append(0)
            top_rows(rows, [], 0, None, memory)[0].append(0)
            top_rows(rows, [], 0, 1, memory)[0].append(0)
        merge_runs([rows[1:], rows[:1]], [])[0].append(0)
        merge_runs([rows[1:]], [])[0].append(0)
        self.assertEqual(rows, [[2], [1]])


class Top(unittest.TestCase):
    def test_with_every_memory(self):
        for rows, keys in itertools.product(lists(), KEYS):
            kept = [list(row) for row in rows]
            for skip, count in itertools.product((0, 1, 3, 20), (None, 0, 1, 2, 5, 30)):
                wanted = cut_rows(sorted_rows(rows, keys), skip, count)
                for memory in (1, 2, 3, 4, 5, 6, 8, 100):
                    found = top_rows(rows, keys, skip, count, memory)
                    self.assertTrue(is_exactly(found, wanted), (rows, keys, skip, count, memory))
            self.assertTrue(is_exactly(rows, kept))

    def test_what_is_counted(self):
        rows = [[number] for number in range(9)]
        self.assertEqual([top_written(rows, 2, 3, memory) for memory in range(1, 7)], [9, 9, 9, 9, 0, 0])
        self.assertEqual([top_written(rows, 0, 3, memory) for memory in range(1, 5)], [9, 9, 0, 0])
        self.assertEqual([top_written(rows, 5, 0, memory) for memory in (4, 5)], [9, 0])
        self.assertEqual(top_written(rows, 0, 0, 1), 0)
        # Without a count, and beyond the memory, it is what the sort writes.
        self.assertEqual([top_written(rows, 0, None, memory) for memory in (1, 8, 9, 10)], [9, 9, 0, 0])
        self.assertEqual([top_written(rows, 8, None, memory) for memory in (1, 8, 9, 10)], [9, 9, 0, 0])
        self.assertEqual([top_written(rows, 0, 10 ** 15, memory) for memory in (1, 8, 9, 10)], [9, 9, 0, 0])
        self.assertEqual(top_written([], 1, 1, 1), 0)


if __name__ == "__main__":
    unittest.main()
