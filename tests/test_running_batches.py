"""Points 103, 104 and 106: batches, filters and projections."""

import random
import unittest

from stylobate.running.batches import Batch, filter_batches, flat, into_batches, project_batches, union_batches
from stylobate.values.expressions import evaluate_all, holds
from tests.samples import binary, column, constant

A = column(0)
ROWS = [[number, f"w{number}"] for number in range(7)]


def told(batches):
    return [(batch.rows, batch.selection) for batch in batches]


def odd(expression):
    return binary("equal", binary("rest", expression, constant(2)), constant(1))


class Batches(unittest.TestCase):
    def test_selections(self):
        batch = Batch(ROWS, [1, 4, 6])
        self.assertEqual((batch.rows, batch.selection), (ROWS, [1, 4, 6]))
        self.assertEqual(batch.chosen(), [ROWS[1], ROWS[4], ROWS[6]])
        self.assertEqual(Batch(ROWS, []).chosen(), [])
        self.assertEqual(Batch([], []).chosen(), [])

    def test_copies(self):
        rows, selection = [[1], [2]], [0]
        batch = Batch(rows, selection)
        rows[0].append(5)
        selection.append(1)
        batch.chosen()[0].append(7)
        self.assertEqual((batch.rows, batch.selection, batch.chosen()), ([[1], [2]], [0], [[1]]))

    def test_rows_are_put_into_batches(self):
        for size in range(1, 10):
            batches = into_batches(ROWS, size)
            self.assertEqual(flat(batches), ROWS)
            self.assertEqual([len(batch.rows) for batch in batches],
                             [size] * (7 // size) + ([7 % size] if 7 % size else []))
            for batch in batches:
                self.assertEqual(batch.selection, list(range(len(batch.rows))))
            self.assertEqual(into_batches([], size), [])
        self.assertEqual(told(into_batches([[], []], 2)), [([[], []], [0, 1])])

    def test_flat(self):
        self.assertEqual(flat([]), [])
        self.assertEqual(flat([Batch(ROWS, [2]), Batch(ROWS, []), Batch(ROWS[:2], [0, 1])]), [ROWS[2], ROWS[0], ROWS[1]])
        for row in flat(into_batches(ROWS, 3)):
            self.assertEqual(len(row), 2)

    def test_union(self):
        one, two = into_batches(ROWS, 4), into_batches(ROWS[:3], 2)
        self.assertEqual(told(union_batches(one, two)), told(one) + told(two))
        self.assertEqual(union_batches([], []), [])
        union_batches(one, two).clear()
        self.assertEqual(len(one), 2)


class Filters(unittest.TestCase):
    def test_each_batch_keeps_its_rows(self):
        batches = into_batches(ROWS, 3)
        found = filter_batches(odd(A), batches)
        self.assertEqual(told(found), [(ROWS[:3], [1]), (ROWS[3:6], [0, 2])])
        self.assertEqual(told(batches), told(into_batches(ROWS, 3)))

    def test_only_selected_rows_count(self):
        batches = [Batch(ROWS, [1, 2, 5]), Batch(ROWS, [0, 2]), Batch(ROWS, [])]
        self.assertEqual(told(filter_batches(odd(A), batches)), [(ROWS, [1, 5])])
        self.assertEqual(told(filter_batches(constant(True), batches)), told(batches[:2]))
        again = filter_batches(binary("less", A, constant(5)), filter_batches(odd(A), batches))
        self.assertEqual(told(again), [(ROWS, [1])])

    def test_what_does_not_hold(self):
        for value in (False, None, 1, "true"):
            self.assertEqual(filter_batches(constant(value), into_batches(ROWS, 2)), [])
        self.assertEqual(filter_batches(constant(True), []), [])


class Projections(unittest.TestCase):
    def test_values_for_selected_rows(self):
        batches = [Batch(ROWS, [1, 4]), Batch(ROWS, [0])]
        expressions = (column(1), binary("add", A, constant(10)))
        found = project_batches(expressions, batches)
        self.assertEqual(told(found), [([["w1", 11], ["w4", 14]], [0, 1]), ([["w0", 10]], [0])])
        self.assertEqual(told(project_batches((), batches)), [([[], []], [0, 1]), ([[]], [0])])
        self.assertEqual(told(batches), [(ROWS, [1, 4]), (ROWS, [0])])

    def test_one_batch_of_each_batch(self):
        self.assertEqual(told(project_batches([A], [Batch(ROWS, []), Batch(ROWS, [3])])), [([], []), ([[3]], [0])])
        self.assertEqual(project_batches([A], []), [])

    def test_by_chance(self):
        chance = random.Random(104)
        for _ in range(200):
            rows = [[chance.choice([None, 0, 1, 2, True, "a"]) for _ in range(2)] for _ in range(chance.randrange(9))]
            condition = chance.choice([odd(A), binary("equal", A, column(1)), binary("less", A, constant(2)), A])
            expressions = [column(1), binary("same", A, constant(True))]
            batches = into_batches(rows, chance.randrange(1, 5))
            kept = filter_batches(condition, batches)
            wanted = [row for row in rows if holds(condition, row)]
            self.assertEqual(flat(kept), wanted)
            self.assertTrue(all(batch.selection for batch in kept))
            self.assertEqual(flat(project_batches(expressions, kept)), [evaluate_all(expressions, row) for row in wanted])


if __name__ == "__main__":
    unittest.main()
