"""Point 127: statistics of columns and tables."""

import unittest

from stylobate.optimizer.statistics import Estimate, Known, known_of, statistics_of


def told(known):
    return (known.nulls, known.different, known.first, known.last, known.marks)


class Statistics(unittest.TestCase):
    def check(self, values, *wanted):
        self.assertEqual(repr(told(known_of(values))), repr(wanted), values)

    def test_no_values(self):
        self.check([], 0, 0, None, None, [])
        self.check([None], 1, 0, None, None, [])
        self.check([None] * 5, 5, 0, None, None, [])

    def test_one_value(self):
        self.check([7], 0, 1, 7, 7, [7] * 8)
        self.check([7, 7, None, 7], 1, 1, 7, 7, [7] * 8)
        self.check([False], 0, 1, False, False, [False] * 8)
        self.check([""], 0, 1, "", "", [""] * 8)

    def test_marks(self):
        # Of two values the places are 2 * k / 8, rounded up; of three 3 * k / 8; and so on.
        self.check([2, 1], 0, 2, 1, 2, [1, 1, 1, 1, 2, 2, 2, 2])
        self.check([3, 1, 2], 0, 3, 1, 3, [1, 1, 2, 2, 2, 3, 3, 3])
        self.check([5, 4, 3, 2, 1], 0, 5, 1, 5, [1, 2, 2, 3, 4, 4, 5, 5])
        self.check(list(range(8, 0, -1)), 0, 8, 1, 8, [1, 2, 3, 4, 5, 6, 7, 8])
        self.check(list(range(1, 10)), 0, 9, 1, 9, [2, 3, 4, 5, 6, 7, 8, 9])
        self.check(list(range(1, 17)), 0, 16, 1, 16, [2, 4, 6, 8, 10, 12, 14, 16])
        self.check(list(range(1, 101)), 0, 100, 1, 100, [13, 25, 38, 50, 63, 75, 88, 100])
        self.check([1] * 7 + [2, None], 1, 2, 1, 2, [1] * 7 + [2])

    def test_several_kinds(self):
        self.check(["a", 5, True, None, -3, False, "", 5], 1, 6, False, "a",
                   [False, True, -3, 5, 5, "", "a", "a"])
        self.check([1, True, 1, 0, False], 0, 4, False, 1, [False, True, True, 0, 1, 1, 1, 1])

    def test_tables(self):
        tables = [[[1, "b"], [None, "a"]], [], [[], [], []]]
        found = statistics_of([2, 1, 0], tables)
        self.assertEqual([one.many for one in found], [2, 0, 3])
        self.assertEqual([[told(known) for known in one.columns] for one in found], [
            [(1, 1, 1, 1, [1] * 8), (0, 2, "a", "b", ["a"] * 4 + ["b"] * 4)], [(0, 0, None, None, [])], []])
        self.assertEqual(statistics_of([], []), [])
        self.assertEqual(tables, [[[1, "b"], [None, "a"]], [], [[], [], []]])

    def test_classes(self):
        marks = [1, 2]
        known = Known(1, 2, 3, 4, marks)
        self.assertEqual(told(known), (1, 2, 3, 4, [1, 2]))
        marks.append(3)
        self.assertEqual(known.marks, [1, 2])
        columns = [known]
        estimate = Estimate(5, columns)
        columns.append(known)
        self.assertEqual((estimate.many, estimate.columns), (5, [known]))
