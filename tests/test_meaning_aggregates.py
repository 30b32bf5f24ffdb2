"""Point 68: the values over lists of rows."""

import random
import unittest
from fractions import Fraction

from stylobate.meaning.aggregates import aggregate
from tests.samples import LIMIT, VALUES, binary, choice, column, constant, is_exactly

A = column(0)
NAMES = ("count", "distinct", "sum", "min", "max", "average", "average decimal", "every", "some", "list")


def over(name, values):
    return aggregate((name, A), [[value] for value in values])


def half_away(number):
    """A fraction, rounded half away from 0."""
    size = (2 * abs(number.numerator) + number.denominator) // (2 * number.denominator)
    return size if number >= 0 else -size


class Aggregates(unittest.TestCase):
    def check(self, name, values, wanted):
        found = over(name, values)
        self.assertTrue(is_exactly(found, wanted), (name, values, found))

    def test_over_no_rows_and_over_none_alone(self):
        for name in NAMES:
            wanted = 0 if name in ("count", "distinct") else None
            self.check(name, [], wanted)
            self.check(name, [None], wanted)
            self.check(name, [None, None, None], wanted)
        self.assertEqual(aggregate(("rows", None), []), 0)
        self.assertEqual(aggregate(("rows", None), [[None], [None]]), 2)
        self.assertEqual(aggregate(("rows", None), [[], [], []]), 3)

    def test_count_and_distinct(self):
        self.check("count", [1, None, 1, "a", False, None], 4)
        self.check("distinct", [1, None, 1, "a", False, None], 3)
        self.check("distinct", [1, True, "1", 0, False, 1, True], 5)
        self.check("distinct", VALUES, len(VALUES) - 1)

    def test_sum(self):
        self.check("sum", [1, None, 2, -5], -2)
        self.check("sum", [0], 0)
        self.check("sum", [True, "7", None], None)
        self.check("sum", [True, "7", 7], 7)
        self.check("sum", [LIMIT], LIMIT)
        self.check("sum", [LIMIT, 1], None)
        self.check("sum", [LIMIT, 1, -1], LIMIT)
        self.check("sum", [-LIMIT, -1], None)
        self.check("sum", [-LIMIT, -1, 1], -LIMIT)
        self.check("sum", [LIMIT, LIMIT, -LIMIT, -LIMIT, LIMIT], LIMIT)

    def test_min_and_max(self):
        self.check("min", VALUES, False)
        self.check("max", VALUES, "~")
        self.check("min", [None, 3, 1, 2], 1)
        self.check("max", [None, 3, 1, 2], 3)
        self.check("min", [1, True], True)
        self.check("max", [True, 0], 0)
        self.check("max", ["ab", "b", ""], "b")
        self.check("min", [False], False)

    def test_averages(self):
        self.check("average", [1, 2], 15000)
        self.check("average", [1, 2, None, "x", True], 15000)
        self.check("average", [1, 1, 0], 6667)
        self.check("average", [-1, -1, 0], -6667)
        self.check("average", [1, 0, 0], 3333)
        self.check("average decimal", [1, 2], 2)
        self.check("average decimal", [-1, -2], -2)
        self.check("average decimal", [0, 1], 1)
        self.check("average decimal", [0, -1], -1)
        self.check("average decimal", [1, 0, 0], 0)
        self.check("average decimal", [LIMIT, LIMIT], LIMIT)
        self.check("average decimal", [LIMIT + 1, LIMIT], None)
        self.check("average", [LIMIT // 10000, LIMIT // 10000], LIMIT)
        self.check("average", [LIMIT // 10000, LIMIT // 10000 + 1], None)
        self.check("average", [-LIMIT // 10000], -LIMIT)
        self.check("average", [-LIMIT // 10000 - 1], None)
        # The sum of the integers has no limit here.
        self.check("average decimal", [LIMIT] * 30, LIMIT)

    def test_averages_by_chance(self):
        chance = random.Random(68)
        for _ in range(300):
            numbers = [chance.randrange(-50, 50) for _ in range(chance.randrange(1, 9))]
            mean = Fraction(sum(numbers), len(numbers))
            self.check("average", numbers, half_away(10000 * mean))
            self.check("average decimal", numbers, half_away(mean))

    def test_every_and_some(self):
        self.check("every", [True, True, None], True)
        self.check("every", [True, False], False)
        self.check("some", [False, True], True)
        self.check("some", [False, None], False)
        for name in ("every", "some"):
            self.check(name, [1, 0, "true", None], None)
            self.check(name, [1, 0, True], True)
            self.check(name, [1, False], False)

    def test_list(self):
        self.check("list", ["b", None, "a", "b", ""], ", a, b, b")
        self.check("list", [1, True, None], None)
        self.check("list", [""], "")
        self.check("list", ["B", "a", "A"], "A, B, a")
        self.check("list", ["a" * 10000], "a" * 10000)
        self.check("list", ["a" * 10001], None)
        self.check("list", ["a" * 5000, "b" * 4998], "a" * 5000 + ", " + "b" * 4998)
        self.check("list", ["a" * 5000, "b" * 4999], None)
        self.check("list", ["a" * 10000] * 2000, None)

    def test_an_expression_is_worked_in_each_row(self):
        rows = [[1, 10], [2, 20], [None, 30]]
        self.assertEqual(aggregate(("sum", binary("add", A, column(1))), rows), 33)
        self.assertEqual(aggregate(("count", constant(0)), rows), 3)
        self.assertEqual(aggregate(("count", constant(None)), rows), 0)
        self.assertEqual(aggregate(("max", column(7)), rows), None)
        when = choice(binary("less", A, constant(2)), column(1), constant(None))
        self.assertEqual(aggregate(("list", when), rows), None)
        self.assertEqual(aggregate(("sum", when), rows), 10)
        self.assertEqual(rows, [[1, 10], [2, 20], [None, 30]])


if __name__ == "__main__":
    unittest.main()
