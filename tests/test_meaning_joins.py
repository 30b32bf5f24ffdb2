"""Point 67: joins of two lists of rows."""

import copy
import random
import unittest

from stylobate.meaning.joins import join_rows
from stylobate.values.expressions import evaluate
from tests.samples import binary, column, constant, is_exactly

EQUAL = binary("equal", column(0), column(2))
LEFT = [[1, "a"], [2, "b"], [None, "c"], [1, "a"], [3, "d"]]
RIGHT = [[1, "x"], [1, "y"], [None, "z"], [2, "x"], [1, "x"]]
KINDS = ("inner", "left", "some", "none", "never")


def slow_join(kind, width, condition, left, right):
    """The words of the document."""
    found = []
    for row in left:
        values = [evaluate(condition, row + other) for other in right]
        pairs = [row + other for other, value in zip(right, values) if value is True]
        if kind == "inner":
            found += pairs
        if kind == "left":
            found += pairs or [row + [None] * width]
        if (kind == "some" and pairs) or (kind == "none" and not pairs):
            found.append(row)
        if kind == "never" and all(value is False for value in values):
            found.append(row)
    return found


class Joins(unittest.TestCase):
    def check(self, kind, condition, left, right, wanted):
        found = join_rows(kind, 2, condition, left, right)
        self.assertTrue(is_exactly(found, wanted), (kind, found))

    def test_equal_values(self):
        one = [[1, "a", 1, "x"], [1, "a", 1, "y"], [1, "a", 1, "x"]]
        self.check("inner", EQUAL, LEFT, RIGHT, one + [[2, "b", 2, "x"]] + one)
        self.check("left", EQUAL, LEFT, RIGHT,
                   one + [[2, "b", 2, "x"], [None, "c", None, None]] + one + [[3, "d", None, None]])
        self.check("some", EQUAL, LEFT, RIGHT, [[1, "a"], [2, "b"], [1, "a"]])
        self.check("none", EQUAL, LEFT, RIGHT, [[None, "c"], [3, "d"]])
        # Beside a None the condition is unknown: neither true nor false.
        self.check("never", EQUAL, LEFT, RIGHT, [])
        self.check("never", EQUAL, LEFT, [[1, "x"], [2, "y"]], [[3, "d"]])

    def test_true_false_and_unknown(self):
        pairs = [row + other for row in LEFT for other in RIGHT]
        alone = [row + [None, None] for row in LEFT]
        told = [(True, (pairs, pairs, LEFT, [], [])), (False, ([], alone, [], LEFT, LEFT)),
                (None, ([], alone, [], LEFT, [])), (1, ([], alone, [], LEFT, [])), (0, ([], alone, [], LEFT, []))]
        for value, wanted in told:
            for kind, rows in zip(KINDS, wanted):
                self.check(kind, constant(value), LEFT, RIGHT, rows)

    def test_empty_sides(self):
        for condition in (EQUAL, constant(True), constant(None)):
            for kind in KINDS:
                self.check(kind, condition, [], RIGHT, [])
                self.check(kind, condition, [], [], [])
            self.check("inner", condition, LEFT, [], [])
            self.check("left", condition, LEFT, [], [row + [None, None] for row in LEFT])
            self.check("some", condition, LEFT, [], [])
            self.check("none", condition, LEFT, [], LEFT)
            self.check("never", condition, LEFT, [], LEFT)

    def test_width_of_the_other_side(self):
        self.assertEqual(join_rows("left", 0, constant(False), [[1]], [[]]), [[1]])
        self.assertEqual(join_rows("left", 3, constant(True), [[1]], []), [[1, None, None, None]])
        self.assertEqual(join_rows("inner", 0, constant(True), [[], []], [[], [], []]), [[]] * 6)

    def test_rows_stay_as_they_are(self):
        left, right = copy.deepcopy(LEFT), copy.deepcopy(RIGHT)
        for kind in KINDS:
            for row in join_rows(kind, 2, EQUAL, left, right):
                row.append("more")
        self.assertEqual((left, right), (LEFT, RIGHT))

    def test_by_chance(self):
        chance = random.Random(67)
        values = [None, True, 0, 1, 2, "a"]
        conditions = [EQUAL, binary("less", column(0), column(2)), binary("and", EQUAL, column(3)),
                      binary("or", EQUAL, column(1)), binary("same", column(1), column(3)), column(3)]
        for _ in range(300):
            left = [[chance.choice(values), chance.choice(values)] for _ in range(chance.randrange(5))]
            right = [[chance.choice(values), chance.choice(values)] for _ in range(chance.randrange(5))]
            condition = chance.choice(conditions)
            for kind in KINDS:
                self.check(kind, condition, left, right, slow_join(kind, 2, condition, left, right))


if __name__ == "__main__":
    unittest.main()
