"""Point 143: changes, and changes made small."""

import random
import unittest

from stylobate.kept.changes import Change, changed_rows
from tests.random_plans import bag
from tests.samples import is_exactly


class Changes(unittest.TestCase):
    def check(self, gone, come, small_gone, small_come):
        change = Change(gone, come)
        small = change.small()
        self.assertTrue(is_exactly((small.gone, small.come), (small_gone, small_come)), (small.gone, small.come))
        self.assertTrue(is_exactly((change.gone, change.come), (gone, come)))
        self.assertEqual(small.nothing, not small_gone and not small_come)

    def test_made_small(self):
        self.check([], [], [], [])
        self.check([[1]], [], [[1]], [])
        self.check([[1]], [[2]], [[1]], [[2]])
        self.check([[1]], [[1]], [], [])
        self.check([[1], [1], [2]], [[1]], [[1], [2]], [])
        self.check([[1]], [[2], [1], [1], [1]], [], [[2], [1], [1]])
        self.check([[3], [1], [2], [1]], [[1], [4], [3]], [[1], [2]], [[4]])
        self.check([[]], [[], []], [], [[]])

    def test_of_repeated_rows_the_first_ones_stay(self):
        self.check([[1], [2], [1]], [[1]], [[1], [2]], [])
        self.check([[5]], [[5], [6], [5], [7], [5]], [], [[5], [6], [5], [7]])

    def test_values_of_several_kinds_differ(self):
        self.check([[True], [1], ["1"], [None]], [[1]], [[True], ["1"], [None]], [])
        self.check([[0]], [[False]], [[0]], [[False]])

    def test_nothing(self):
        self.assertTrue(Change([], []).nothing)
        self.assertFalse(Change([[1]], []).nothing)
        self.assertFalse(Change([], [[1]]).nothing)
        self.assertFalse(Change([[1]], [[1]]).nothing)

    def test_lists_are_new(self):
        gone, come = [[1]], [[2]]
        change = Change(gone, come)
        gone[0].append(0)
        come.append([3])
        self.assertEqual((change.gone, change.come), ([[1]], [[2]]))


class Rows(unittest.TestCase):
    def test_changed(self):
        rows = [[1], [2], [1], [3]]
        self.assertEqual(changed_rows(rows, Change([], [])), rows)
        self.assertEqual(changed_rows(rows, Change([[1]], [[9], [1]])), [[2], [1], [3], [9], [1]])
        self.assertEqual(changed_rows(rows, Change([[3], [1], [1]], [])), [[2]])
        self.assertEqual(changed_rows([[1], [True]], Change([[True]], [])), [[1]])
        self.assertEqual(changed_rows([], Change([], [[1], [1]])), [[1], [1]])
        # What goes is taken from the old rows, not from those that come.
        self.assertEqual(changed_rows([[1]], Change([[1]], [[1]])), [[1]])

    def test_rows_are_new(self):
        rows = [[1], [2]]
        change = Change([[1]], [[3]])
        for row in changed_rows(rows, change):
            row.append(0)
        self.assertEqual((rows, change.come), ([[1], [2]], [[3]]))

    def test_a_small_change_leads_to_the_same_rows(self):
        chance = random.Random(143)
        values = [None, True, 1, 2]
        for _ in range(300):
            rows = [[chance.choice(values)] for _ in range(chance.randrange(8))]
            gone = chance.sample(rows, chance.randrange(len(rows) + 1))
            change = Change(gone, [[chance.choice(values)] for _ in range(chance.randrange(6))])
            small = change.small()
            self.assertEqual(bag(changed_rows(rows, change)), bag(changed_rows(rows, small)))
            self.assertFalse([row for row in bag(small.gone) if row in bag(small.come)])
