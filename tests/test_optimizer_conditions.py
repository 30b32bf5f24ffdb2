"""Points 120 to 123: words about conditions."""

import itertools
import random
import unittest

from stylobate.optimizer.conditions import (
    can_merge, condition_parts, conjunction, is_plain, none_from, refuses, together, uses_only,
)
from stylobate.optimizer.joins import filtered
from stylobate.values.expressions import evaluate, replaced
from stylobate.values.operations import BINARY, TERNARY, UNARY
from tests.samples import binary, choice, column, constant, ternary, unary

A, B, C = column(0), column(1), column(2)
NONE, TRUE = constant(None), constant(True)


def both(one, two):
    return binary("and", one, two)


def either(one, two):
    return binary("or", one, two)


class Parts(unittest.TestCase):
    def test_parts_of_conditions(self):
        d, e = column(3), column(4)
        self.assertEqual(condition_parts(A), [A])
        self.assertEqual(condition_parts(TRUE), [TRUE])
        self.assertEqual(condition_parts(both(A, B)), [A, B])
        self.assertEqual(condition_parts(both(both(A, B), both(C, both(d, e)))), [A, B, C, d, e])
        self.assertEqual(condition_parts(both(both(both(A, A), TRUE), B)), [A, A, TRUE, B])
        # What stands below another operation is no part.
        for other in (either(both(A, B), C), unary("not", both(A, B)), choice(both(A, B), A, B)):
            self.assertEqual(condition_parts(other), [other])
            self.assertEqual(condition_parts(both(other, A)), [other, A])

    def test_joined(self):
        told = [column(number) for number in range(8)]
        self.assertEqual(conjunction([]), TRUE)
        self.assertEqual(conjunction(told[:1]), A)
        self.assertEqual(conjunction(told[:2]), both(A, B))
        self.assertEqual(conjunction(told[:3]), both(A, both(B, C)))
        self.assertEqual(conjunction(told[:4]), both(both(A, B), both(C, told[3])))
        self.assertEqual(conjunction(told[:5]), both(both(A, B), both(C, both(told[3], told[4]))))
        for many in range(2, 9):
            half = many // 2
            self.assertEqual(conjunction(told[:many]), both(conjunction(told[:half]), conjunction(told[half:many])))
        # A part that is an "and" itself stays one.
        self.assertEqual(conjunction([both(A, B), C]), both(both(A, B), C))
        self.assertEqual(told, [column(number) for number in range(8)])

    def test_together(self):
        self.assertEqual(together(A, B), both(A, B))
        self.assertEqual(together(both(A, B), C), both(A, both(B, C)))
        self.assertEqual(together(C, both(A, B)), both(C, both(A, B)))
        self.assertEqual(together(both(A, both(B, C)), both(TRUE, A)), both(both(A, B), both(C, both(TRUE, A))))
        self.assertEqual(together(TRUE, TRUE), both(TRUE, TRUE))

    def test_filtered_by_a_list(self):
        plan = ("table", 0)
        self.assertEqual(filtered(plan, []), plan)
        self.assertEqual(filtered(plan, [A]), ("filter", A, plan))
        self.assertEqual(filtered(plan, [A, B]), ("filter", both(A, B), plan))
        self.assertEqual(filtered(plan, [A, B, C]), ("filter", both(A, both(B, C)), plan))
        self.assertEqual(filtered(plan, [TRUE]), ("filter", TRUE, plan))


class Columns(unittest.TestCase):
    def test_uses_only(self):
        expression = choice(binary("less", column(3), constant(1)), unary("not", column(5)), column(3))
        for low, high in itertools.product(range(8), range(9)):
            self.assertIs(uses_only(expression, low, high), low <= 3 and high > 5)
            self.assertIs(uses_only(column(4), low, high), low <= 4 < high)
            self.assertIs(uses_only(constant(4), low, high), True)
            self.assertIs(uses_only(ternary("part", constant(4), NONE, TRUE), low, high), True)

    def test_plain(self):
        for plain in (A, column(9), NONE, constant("a")):
            self.assertIs(is_plain(plain), True)
        for other in (unary("not", A), both(A, B), ternary("pad", A, B, C), choice(A, B, C), unary("is null", NONE)):
            self.assertIs(is_plain(other), False)

    def test_can_merge(self):
        work = binary("add", A, B)
        self.assertIs(can_merge([A, NONE], [both(A, A), both(B, both(B, A))]), True)
        self.assertIs(can_merge([work], [A]), True)
        self.assertIs(can_merge([work], [A, A]), False)
        self.assertIs(can_merge([work], [both(A, A)]), False)
        self.assertIs(can_merge([work], [B, B]), True)
        self.assertIs(can_merge([A, work], [A, A, B]), True)
        self.assertIs(can_merge([A, work], [A, B, unary("not", choice(TRUE, A, B))]), False)
        self.assertIs(can_merge([work, work], [A, unary("not", B)]), True)
        self.assertIs(can_merge((work, work), (A, unary("not", A))), False)
        self.assertIs(can_merge([work], []), True)
        self.assertIs(can_merge([], [A, A]), True)
        self.assertIs(can_merge([work], [ternary("part", B, A, C), A]), False)
        self.assertIs(can_merge([work], [constant(0), constant(0)]), True)


class NoneFrom(unittest.TestCase):
    """Columns from 2 on are None."""

    def none(self, expression):
        found = none_from(expression, 2)
        self.assertIn(found, (True, False))
        return found

    def test_constants_and_columns(self):
        self.assertTrue(self.none(NONE))
        for value in (False, True, 0, ""):
            self.assertFalse(self.none(constant(value)))
        self.assertEqual([self.none(column(k)) for k in range(5)], [False, False, True, True, True])
        self.assertTrue(none_from(A, 0))

    def test_one_operand(self):
        for name in UNARY:
            self.assertEqual(self.none(unary(name, C)), name != "is null", name)
            self.assertFalse(self.none(unary(name, B)), name)

    def test_two_operands(self):
        for name in BINARY:
            one = name not in ("and", "or", "coalesce", "same")
            self.assertEqual(self.none(binary(name, C, B)), one, name)
            self.assertEqual(self.none(binary(name, B, C)), one, name)
            self.assertEqual(self.none(binary(name, C, NONE)), name != "same", name)
            self.assertFalse(self.none(binary(name, A, B)), name)

    def test_three_operands(self):
        for name in TERNARY:
            for at in range(3):
                parts = [A, B, constant(1)]
                self.assertFalse(self.none(ternary(name, *parts)))
                parts[at] = C
                self.assertTrue(self.none(ternary(name, *parts)), (name, at))

    def test_choices(self):
        self.assertTrue(self.none(choice(A, C, NONE)))
        self.assertFalse(self.none(choice(A, C, B)))
        self.assertFalse(self.none(choice(A, B, C)))
        self.assertFalse(self.none(choice(C, A, B)))

    def test_nested(self):
        self.assertTrue(self.none(binary("add", A, unary("negate", C))))
        self.assertTrue(self.none(both(binary("less", A, C), unary("not", column(3)))))
        self.assertFalse(self.none(unary("not", unary("is null", C))))
        self.assertFalse(self.none(unary("negate", binary("coalesce", C, A))))


class Refusing(unittest.TestCase):
    def refuses(self, condition):
        found = refuses(condition, 2)
        self.assertIn(found, (True, False))
        return found

    def test_of_each_form(self):
        known = unary("not", unary("is null", C))
        refusing = [C, NONE, binary("equal", A, C), known, unary("not", C), choice(A, C, C), ternary("part", A, B, C)]
        others = [A, TRUE, constant(False), unary("is null", C), unary("not", unary("is null", B)),
                  binary("same", A, C), binary("coalesce", C, A), choice(C, A, B), unary("not", both(A, C))]
        for one in refusing:
            self.assertTrue(self.refuses(one), one)
            for two in refusing:
                self.assertTrue(self.refuses(both(one, two)))
                self.assertTrue(self.refuses(either(one, two)))
            for two in others:
                self.assertTrue(self.refuses(both(one, two)))
                self.assertTrue(self.refuses(both(two, one)))
                self.assertFalse(self.refuses(either(one, two)))
                self.assertFalse(self.refuses(either(two, one)))
        for one, two in itertools.product(others, others):
            self.assertFalse(self.refuses(one))
            self.assertFalse(self.refuses(both(one, two)))
            self.assertFalse(self.refuses(either(one, two)))

    def test_not_is_looked_at_by_its_words(self):
        self.assertTrue(self.refuses(unary("not", unary("is null", binary("add", A, C)))))
        self.assertFalse(self.refuses(unary("not", unary("is null", binary("coalesce", A, C)))))
        # Only "not" of "is null" is looked at so.
        for name in UNARY:
            if name != "not":
                self.assertFalse(self.refuses(unary(name, unary("is null", C))), name)
        self.assertFalse(self.refuses(unary("not", constant("is null"))))
        self.assertFalse(self.refuses(constant("and")))
        # "or" within "not" is None only if both operands are.
        self.assertTrue(self.refuses(unary("not", either(C, column(3)))))
        self.assertFalse(self.refuses(unary("not", either(C, A))))

    def test_m_and_beside_it(self):
        equal = binary("equal", column(1), column(3))
        self.assertEqual([refuses(equal, m) for m in range(6)], [True, True, True, True, False, False])
        self.assertEqual([none_from(equal, m) for m in range(6)], [True, True, True, True, False, False])

    def make(self, chance, depth):
        if depth == 0 or chance.random() < 0.2:
            return chance.choice([column(chance.randrange(4)), constant(chance.choice([None, True, False, 0, 1, "a"]))])
        parts = [self.make(chance, depth - 1) for _ in range(3)]
        form = chance.randrange(4)
        if form == 0:
            return unary(chance.choice(UNARY), parts[0])
        if form == 1:
            return choice(*parts)
        if form == 2:
            return ternary(chance.choice(TERNARY), *parts)
        return binary(chance.choice(BINARY), parts[0], parts[1])

    def test_what_is_told_is_so(self):
        chance = random.Random(122)
        values = [None, True, False, 0, 1, -3, "a", "", "2020-01-01"]
        told = 0
        for _ in range(4000):
            expression = self.make(chance, 3)
            alone = replaced(expression, [A, B])
            row = [chance.choice(values), chance.choice(values)]
            if none_from(expression, 2):
                told += 1
                self.assertIsNone(evaluate(alone, row), expression)
            if refuses(expression, 2):
                told += 1
                self.assertIsNot(evaluate(alone, row), True, expression)
        self.assertGreater(told, 500)


if __name__ == "__main__":
    unittest.main()
