"""Points 15 to 17: expressions, their values, and what is made of them."""

import unittest

from stylobate.values.expressions import (columns_of, depth_of, evaluate, evaluate_all, folded, holds, moved,
                                          replaced, same_expression, size_of)
from tests.samples import binary, choice, column, constant, is_exactly, ternary, unary

NONE, TRUE, FALSE, ONE = constant(None), constant(True), constant(False), constant(1)
A, B, C, D = column(0), column(1), column(2), column(3)


def nested(depth):
    """An expression of this depth."""
    expression = A
    for _ in range(depth - 1):
        expression = unary("negate", expression)
    return expression


class Values(unittest.TestCase):
    def test_each_form(self):
        row = [5, None, "abc", True]
        cases = [(constant("x"), "x"), (NONE, None), (A, 5), (B, None), (column(4), None), (column(99), None),
                 (unary("negate", A), -5), (binary("add", A, constant(2)), 7),
                 (ternary("part", C, constant(2), constant(2)), "bc"),
                 (choice(D, A, C), 5), (choice(B, A, C), "abc"), (choice(A, A, C), "abc"),
                 (choice(FALSE, A, C), "abc"), (choice(constant(1), A, C), "abc"),
                 (unary("is null", column(7)), True), (binary("coalesce", column(9), A), 5)]
        for expression, wanted in cases:
            self.assertTrue(is_exactly(evaluate(expression, row), wanted), expression)
        self.assertTrue(is_exactly(evaluate_all([e for e, _ in cases], row), [w for _, w in cases]))
        self.assertTrue(is_exactly(evaluate_all(tuple(e for e, _ in cases), row), [w for _, w in cases]))
        self.assertEqual(evaluate_all((), row), [])
        self.assertEqual(row, [5, None, "abc", True])

    def test_holds(self):
        for value, wanted in ((True, True), (False, False), (None, False), (1, False), ("True", False)):
            self.assertIs(holds(A, [value]), wanted)
        self.assertIs(holds(A, []), False)

    def test_deep(self):
        self.assertEqual(evaluate(nested(200), [1]), -1)
        self.assertEqual(evaluate(nested(199), [1]), 1)


class Measures(unittest.TestCase):
    def test_columns(self):
        self.assertEqual(columns_of(ONE), [])
        self.assertEqual(columns_of(choice(D, binary("add", B, D), ternary("pad", column(10), A, B))), [0, 1, 3, 10])
        self.assertEqual(columns_of(unary("not", column(7))), [7])

    def test_size_and_depth(self):
        cases = [(ONE, 1, 1), (A, 1, 1), (unary("not", A), 2, 2), (binary("add", A, ONE), 3, 2),
                 (ternary("part", A, B, C), 4, 2), (choice(A, B, C), 4, 2),
                 (choice(unary("not", A), binary("add", unary("abs", B), C), D), 8, 4), (nested(200), 200, 200)]
        for expression, size, depth in cases:
            self.assertEqual((size_of(expression), depth_of(expression)), (size, depth))

    def test_same(self):
        self.assertIs(same_expression(constant(True), constant(1)), False)
        self.assertIs(same_expression(constant(0), constant(False)), False)
        self.assertIs(same_expression(NONE, constant("")), False)
        self.assertIs(same_expression(NONE, NONE), True)
        expressions = [ONE, TRUE, FALSE, NONE, constant("1"), A, B, unary("abs", A), unary("sign", A), unary("abs", B),
                       binary("add", A, B), binary("add", B, A), binary("least", A, B), ternary("pad", A, B, C),
                       ternary("split", A, B, C), choice(A, B, C), choice(A, B, D), unary("not", TRUE), unary("not", ONE),
                       binary("equal", A, ONE), binary("equal", A, TRUE), nested(200), nested(199)]
        for i, first in enumerate(expressions):
            for j, second in enumerate(expressions):
                self.assertIs(same_expression(first, second), i == j, (first, second))


class Changes(unittest.TestCase):
    def test_moved(self):
        expression = choice(A, binary("add", B, ONE), ternary("pad", C, A, NONE))
        self.assertEqual(moved(expression, 3),
                         choice(column(3), binary("add", column(4), ONE), ternary("pad", column(5), column(3), NONE)))
        self.assertEqual(moved(expression, 0), expression)
        self.assertEqual(moved(ONE, 5), ONE)
        self.assertEqual(columns_of(moved(nested(200), 4)), [4])

    def test_replaced(self):
        expression = choice(A, binary("add", B, ONE), unary("negate", C))
        parts = [unary("not", A), column(5)]
        self.assertEqual(replaced(expression, parts),
                         choice(unary("not", A), binary("add", column(5), ONE), unary("negate", NONE)))
        self.assertEqual(parts, [unary("not", A), column(5)])
        self.assertEqual(replaced(A, []), NONE)
        self.assertEqual(replaced(A, (B,)), B)
        self.assertEqual(replaced(ONE, [A]), ONE)


class Folding(unittest.TestCase):
    def check(self, expression, wanted):
        self.assertTrue(is_exactly(folded(expression), wanted), (expression, folded(expression)))

    def test_operations_on_constants(self):
        self.check(binary("add", ONE, constant(2)), constant(3))
        self.check(binary("divide", ONE, constant(0)), NONE)
        self.check(unary("is null", NONE), TRUE)
        self.check(ternary("part", constant("abc"), ONE, constant(2)), constant("ab"))
        self.check(binary("add", A, binary("add", ONE, ONE)), binary("add", A, constant(2)))
        self.check(unary("negate", A), unary("negate", A))
        self.check(ONE, ONE)
        self.check(A, A)

    def test_and_or(self):
        self.check(binary("and", A, FALSE), FALSE)
        self.check(binary("and", FALSE, A), FALSE)
        self.check(binary("or", A, TRUE), TRUE)
        self.check(binary("or", TRUE, A), TRUE)
        for untouched in (binary("and", A, TRUE), binary("and", TRUE, A), binary("or", A, FALSE),
                          binary("and", A, constant(0)), binary("or", A, ONE), binary("and", A, NONE),
                          binary("equal", A, FALSE)):
            self.check(untouched, untouched)
        self.check(binary("and", TRUE, NONE), NONE)
        self.check(binary("or", constant(3), FALSE), NONE)

    def test_coalesce(self):
        self.check(binary("coalesce", NONE, A), A)
        self.check(binary("coalesce", ONE, A), ONE)
        self.check(binary("coalesce", A, NONE), binary("coalesce", A, NONE))
        self.check(binary("coalesce", NONE, NONE), NONE)

    def test_choice(self):
        self.check(choice(TRUE, A, B), A)
        self.check(choice(FALSE, A, B), B)
        self.check(choice(NONE, A, B), B)
        self.check(choice(ONE, A, B), B)
        self.check(choice(A, ONE, ONE), choice(A, ONE, ONE))
        self.check(choice(binary("less", ONE, constant(2)), unary("negate", ONE), B), constant(-1))

    def test_from_the_inside(self):
        self.check(binary("and", unary("is null", binary("and", FALSE, A)), B), FALSE)
        self.check(binary("add", choice(binary("or", B, TRUE), ONE, C), ONE), constant(2))
        self.check(unary("not", binary("coalesce", NONE, unary("not", A))), unary("not", unary("not", A)))


if __name__ == "__main__":
    unittest.main()
