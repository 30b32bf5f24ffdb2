"""Points 114 and 115: groups and different rows, by hash and by sort."""

import itertools
import random
import unittest

from stylobate.meaning.groups import group_rows
from stylobate.running.grouping import distinct_rows_by, distinct_written, group_rows_by, group_written
from stylobate.running.hashes import hash_of, part_of
from stylobate.values.expressions import evaluate_all
from stylobate.values.order import different_rows, row_rank
from tests.random_plans import bag
from tests.samples import binary, column, constant, is_exactly, unary

A, B = column(0), column(1)
ROWS = [[3, 1], [1, 2], [2, 4], [1, 8], [9, 16], [3, 32], [2, 64]]
COUNT_AND_SUM = (("rows", None), ("sum", B))


def by_tens(values):
    return values[0] * 64


def always(values):
    return 0


def groups(way, keys, values, rows, memory=100, hashed=hash_of):
    return group_rows_by(way, keys, values, rows, memory=memory, hashed=hashed)


def written(way, keys, rows, memory=100, hashed=hash_of):
    return group_written(way, keys, rows, memory=memory, hashed=hashed)


def different(way, rows, memory=100, hashed=hash_of):
    return distinct_rows_by(way, rows, memory=memory, hashed=hashed)


def different_written(way, rows, memory=100, hashed=hash_of):
    return distinct_written(way, rows, memory=memory, hashed=hashed)


class Groups(unittest.TestCase):
    def test_by_hash_in_memory(self):
        wanted = [[3, 2, 33], [1, 2, 10], [2, 2, 68], [9, 1, 16]]
        for memory in (4, 5, 100):
            self.assertEqual(groups("hash", (A,), COUNT_AND_SUM, ROWS, memory), wanted)
            self.assertEqual(written("hash", (A,), ROWS, memory), 0)

    def test_by_hash_in_parts(self):
        # The key 3 is held; 1 and 9 go to the part 1, 2 to the part 2. In the part 1 the key 1 is held.
        wanted = [[3, 2, 33], [1, 2, 10], [9, 1, 16], [2, 2, 68]]
        self.assertEqual(groups("hash", (A,), COUNT_AND_SUM, ROWS, 1, by_tens), wanted)
        self.assertEqual(written("hash", (A,), ROWS, 1, by_tens), 5 + 1)
        # The keys 3 and 1 are held, also for rows that come after those that are written.
        self.assertEqual(groups("hash", (A,), COUNT_AND_SUM, ROWS, 2, by_tens),
                         [[3, 2, 33], [1, 2, 10], [9, 1, 16], [2, 2, 68]])
        self.assertEqual(written("hash", (A,), ROWS, 2, by_tens), 3)
        self.assertEqual(groups("hash", (A,), COUNT_AND_SUM, ROWS, 3, by_tens),
                         [[3, 2, 33], [1, 2, 10], [2, 2, 68], [9, 1, 16]])
        self.assertEqual(written("hash", (A,), ROWS, 3, by_tens), 1)

    def test_a_part_of_a_part_of_a_part_holds_all_keys(self):
        rows = [[number, 1] for number in range(6)]
        wanted = [[number, 1, 1] for number in range(6)]
        self.assertEqual(groups("hash", (A,), COUNT_AND_SUM, rows, 1, always), wanted)
        # The first three keys are held one by one; then the other three are, all at once.
        self.assertEqual(written("hash", (A,), rows, 1, always), 5 + 4 + 3)
        self.assertEqual(written("hash", (A,), rows[:3], 1, always), 2 + 1)

    def test_by_sort(self):
        wanted = [[1, 2, 10], [2, 2, 68], [3, 2, 33], [9, 1, 16]]
        for memory in (1, 3, 7, 100):
            self.assertEqual(groups("sort", (A,), COUNT_AND_SUM, ROWS, memory), wanted)
            self.assertEqual(written("sort", (A,), ROWS, memory), 7 if memory < 7 else 0)
        self.assertEqual(groups("sort", (unary("negate", A),), (), ROWS), [[-9], [-3], [-2], [-1]])
        mixed = [["a"], [None], [True], [1], [None]]
        self.assertEqual(groups("sort", (A,), (("rows", None),), mixed), [[None, 2], [True, 1], [1, 1], ["a", 1]])

    def test_without_keys(self):
        for way, memory in itertools.product(("hash", "sort"), (1, 100)):
            self.assertEqual(groups(way, (), COUNT_AND_SUM, ROWS, memory), [[7, 127]])
            self.assertEqual(groups(way, (), COUNT_AND_SUM, [], memory), [[0, None]])
            self.assertEqual(groups(way, (), (), ROWS, memory), [[]])
            self.assertEqual(written(way, (), ROWS, memory), 0)
            self.assertEqual(groups(way, (A,), COUNT_AND_SUM, [], memory), [])
            self.assertEqual(written(way, (A,), [], memory), 0)


class Distinct(unittest.TestCase):
    def test_by_hash(self):
        rows = [[3], [1], [3], [9], [1], [2]]
        self.assertEqual(different("hash", rows), [[3], [1], [9], [2]])
        self.assertEqual(different_written("hash", rows, 4), 0)
        self.assertEqual(different("hash", rows, 1, by_tens), [[3], [1], [9], [2]])
        self.assertEqual(different_written("hash", rows, 1, by_tens), 4 + 1)
        self.assertEqual(different("hash", [[2], [4], [3], [1]], 1, by_tens), [[2], [1], [3], [4]])
        self.assertEqual(different_written("hash", rows, 3, always), 1)

    def test_by_sort(self):
        rows = [[3, "b"], [None, 1], [3, "a"], [3, "b"], [True, 1], [1, 1]]
        wanted = [[None, 1], [True, 1], [1, 1], [3, "a"], [3, "b"]]
        for memory in (1, 2, 6):
            self.assertEqual(different("sort", rows, memory), wanted)
            self.assertEqual(different_written("sort", rows, memory), 6 if memory < 6 else 0)

    def test_no_rows_and_rows_without_values(self):
        for way in ("hash", "sort"):
            self.assertEqual(different(way, [], 1), [])
            self.assertEqual(different_written(way, [], 1), 0)
            self.assertEqual(different(way, [[], [], []], 1), [[]])
        self.assertEqual(different_written("hash", [[], []], 1), 0)
        self.assertEqual(different_written("sort", [[], []], 1), 2)

    def test_rows_are_new(self):
        rows = [[1], [2], [1]]
        for way, memory in itertools.product(("hash", "sort"), (1, 9)):
            for row in different(way, rows, memory):
                row.append(0)
        self.assertEqual(rows, [[1], [2], [1]])


def model(keys, rows, memory, hashed, time=0):
    """The lists of the keys in order, and how many rows are written, word by word."""
    held, others = [], []
    for row in rows:
        key = evaluate_all(keys, row)
        known = [row_rank(one) for one in held]
        if row_rank(key) in known:
            continue
        if len(held) < memory or time == 3:
            held.append(key)
    known = [row_rank(one) for one in held]
    others = [row for row in rows if row_rank(evaluate_all(keys, row)) not in known]
    found, many = held, len(others)
    for part in range(8):
        members = [row for row in others
                   if time < 3 and part_of(hashed(evaluate_all(keys, row)), time) == part]
        if members:
            more, more_written = model(keys, members, memory, hashed, time + 1)
            found, many = found + more, many + more_written
    return found, many


class Everything(unittest.TestCase):
    def test_rows_order_and_writing(self):
        chance = random.Random(115)
        values = [None, True, 1, 2, 3, 4, 5, 600, 70000, "a", "b", "abc"]
        for _ in range(150):
            rows = [[chance.choice(values), chance.choice(values)] for _ in range(chance.randrange(30))]
            memory, hashed = chance.choice([1, 2, 3, 7, 40]), chance.choice([hash_of, always, len])
            keys = chance.choice([(A,), (A, B), (binary("coalesce", A, B),), (constant(1),), (B, unary("is null", A))])
            wanted, many = model(keys, rows, memory, hashed)
            found = groups("hash", keys, COUNT_AND_SUM, rows, memory, hashed)
            self.assertTrue(is_exactly([row[:len(keys)] for row in found], wanted), (rows, keys, memory))
            self.assertEqual(written("hash", keys, rows, memory, hashed), many)
            told = group_rows(keys, COUNT_AND_SUM, rows)
            self.assertEqual(bag(found), bag(told))
            ordered = groups("sort", keys, COUNT_AND_SUM, rows, memory, hashed)
            self.assertTrue(is_exactly(ordered, sorted(told, key=row_rank)))
            wanted, many = model((A, B), rows, memory, hashed)
            self.assertTrue(is_exactly(different("hash", rows, memory, hashed), wanted))
            self.assertEqual(different_written("hash", rows, memory, hashed), many)
            self.assertTrue(is_exactly(different("sort", rows, memory), sorted(different_rows(rows), key=row_rank)))
