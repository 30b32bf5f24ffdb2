"""Points 18 and 19: the kinds of expressions, and what they promise of values."""

import random
import unittest

from stylobate.values.expressions import evaluate, evaluate_all, folded, moved, replaced
from stylobate.values.kinds import KINDS, fits, kind_of
from stylobate.values.operations import BINARY, TERNARY, UNARY
from tests.samples import LIMIT, binary, choice, column, constant, is_exactly, ternary, unary

NONE = constant(None)

# For each kind a column that is not nullable, and one that is.
COLUMNS = [(kind, nullable) for kind in KINDS for nullable in (False, True)]
AT = {pair: column(number) for number, pair in enumerate(COLUMNS)}

ONE = {
    "not": "bool bool", "negate": "int int, decimal decimal", "abs": "int int, decimal decimal",
    "sign": "int int, decimal int", "lower": "text text", "upper": "text text", "trim": "text text",
    "length": "text int", "year": "date int", "month": "date int", "day": "date int", "weekday": "date int",
    "month start": "date date", "year start": "date date", "week start": "date date",
    "as date": "int date!", "as decimal": "int decimal", "to decimal": "int decimal!", "to int": "decimal int",
    "int to text": "int text", "date to text": "date text", "decimal to text": "decimal text",
    "text to int": "text int!", "text to date": "text date!", "text to decimal": "text decimal!",
    "is null": "",
}
TWO = {
    "and": "bool bool bool", "or": "bool bool bool", "like": "text text bool", "position": "text text int",
    "add": "int int int!, decimal decimal decimal!", "rest": "int int int!, decimal decimal decimal!",
    "subtract": "int int int!, decimal decimal decimal!, date date int!",
    "multiply": "int int int!", "divide": "int int int!",
    "multiply decimals": "decimal decimal decimal!", "divide decimals": "decimal decimal decimal!",
    "join": "text text text!", "add days": "date int date!", "add months": "date int date!",
}
ALIKE = ("equal", "less", "at most", "same", "least", "greatest", "coalesce")
THREE = {"part": "text int int text!", "split": "text text int text!", "pad": "text text int text!",
         "replace": "text text text text!"}


def table(text):
    """Return the dict of the kinds of the parts and (kind, always nullable)."""
    found = {}
    for line in text.split(", "):
        words = line.split()
        if words:
            found[tuple(words[:-1])] = (words[-1].rstrip("!"), words[-1].endswith("!"))
    return found


class Rules(unittest.TestCase):
    def test_leaves(self):
        self.assertEqual(KINDS, ("bool", "int", "text", "date", "decimal"))
        for value, kind in ((True, "bool"), (False, "bool"), (0, "int"), (-5, "int"), ("", "text")):
            self.assertTrue(is_exactly(kind_of(constant(value), []), (kind, False)))
        self.assertIsNone(kind_of(NONE, COLUMNS))
        for number, pair in enumerate(COLUMNS):
            self.assertTrue(is_exactly(kind_of(column(number), COLUMNS), pair))
        self.assertIsNone(kind_of(column(len(COLUMNS)), COLUMNS))
        self.assertIsNone(kind_of(column(0), []))

    def test_one(self):
        for name in UNARY:
            rules = table(ONE[name])
            for pair in COLUMNS:
                told = kind_of(unary(name, AT[pair]), COLUMNS)
                if name == "is null":
                    self.assertTrue(is_exactly(told, ("bool", False)))
                elif (pair[0],) in rules:
                    kind, always = rules[(pair[0],)]
                    self.assertTrue(is_exactly(told, (kind, always or pair[1])), (name, pair, told))
                else:
                    self.assertIsNone(told, (name, pair))
            self.assertIsNone(kind_of(unary(name, NONE), COLUMNS), name)
            self.assertIsNone(kind_of(unary(name, column(99)), COLUMNS), name)

    def test_two(self):
        for name in BINARY:
            for first in COLUMNS:
                for second in COLUMNS:
                    told = kind_of(binary(name, AT[first], AT[second]), COLUMNS)
                    wanted = self.wanted_of_two(name, first, second)
                    self.assertTrue(is_exactly(told, wanted), (name, first, second, told))
                self.assertIsNone(kind_of(binary(name, AT[first], NONE), COLUMNS))
                self.assertIsNone(kind_of(binary(name, NONE, AT[first]), COLUMNS))
            self.assertIsNone(kind_of(binary(name, NONE, NONE), COLUMNS))

    def wanted_of_two(self, name, first, second):
        either = first[1] or second[1]
        if name in ALIKE:
            if first[0] != second[0]:
                return None
            if name == "coalesce":
                return (first[0], first[1] and second[1])
            if name == "same":
                return ("bool", False)
            return (first[0] if name in ("least", "greatest") else "bool", either)
        found = table(TWO[name]).get((first[0], second[0]))
        return None if found is None else (found[0], found[1] or either)

    def test_three(self):
        for name in TERNARY:
            rules = table(THREE[name])
            for first in COLUMNS:
                for second in COLUMNS:
                    for third in COLUMNS:
                        told = kind_of(ternary(name, AT[first], AT[second], AT[third]), COLUMNS)
                        wanted = rules.get((first[0], second[0], third[0]))
                        self.assertTrue(is_exactly(told, wanted), (name, first, second, third))
                self.assertIsNone(kind_of(ternary(name, NONE, AT[first], AT[first]), COLUMNS))
                self.assertIsNone(kind_of(ternary(name, AT[first], NONE, AT[first]), COLUMNS))
                self.assertIsNone(kind_of(ternary(name, AT[first], AT[first], NONE), COLUMNS))

    def test_choice(self):
        for condition in COLUMNS:
            for first in COLUMNS:
                for second in COLUMNS:
                    told = kind_of(choice(AT[condition], AT[first], AT[second]), COLUMNS)
                    fit = condition[0] == "bool" and first[0] == second[0]
                    wanted = (first[0], first[1] or second[1]) if fit else None
                    self.assertTrue(is_exactly(told, wanted), (condition, first, second))
                wanted = (first[0], True) if condition[0] == "bool" else None
                self.assertTrue(is_exactly(kind_of(choice(AT[condition], AT[first], NONE), COLUMNS), wanted))
                self.assertTrue(is_exactly(kind_of(choice(AT[condition], NONE, AT[first]), COLUMNS), wanted))
            self.assertIsNone(kind_of(choice(AT[condition], NONE, NONE), COLUMNS))
            self.assertIsNone(kind_of(choice(AT[condition], NONE, unary("not", constant(1))), COLUMNS))
            self.assertIsNone(kind_of(choice(AT[condition], AT[condition], unary("abs", NONE)), COLUMNS))
        self.assertIsNone(kind_of(choice(NONE, AT[("int", False)], NONE), COLUMNS))

    def test_parts_are_looked_at(self):
        whole = AT[("int", False)]
        self.assertEqual(kind_of(unary("negate", binary("add", whole, whole)), COLUMNS), ("int", True))
        self.assertEqual(kind_of(unary("is null", binary("add", whole, whole)), COLUMNS), ("bool", False))
        self.assertIsNone(kind_of(unary("is null", binary("add", whole, constant("a"))), COLUMNS))
        self.assertEqual(kind_of(binary("coalesce", unary("text to int", constant("x")), whole), COLUMNS),
                         ("int", False))


class Fits(unittest.TestCase):
    def test_at_the_limits(self):
        told = {
            "bool": ([True, False], [0, 1, "true", None]),
            "int": ([0, LIMIT, -LIMIT], [LIMIT + 1, -LIMIT - 1, True, False, None, "1"]),
            "decimal": ([0, LIMIT, -LIMIT], [LIMIT + 1, -LIMIT - 1, True, None, "1.5"]),
            "text": (["", "a", "x" * 10000], ["x" * 10001, None, 5, True]),
            "date": ([-719162, 0, 2932896], [-719163, 2932897, True, None, "2000-01-01"]),
        }
        for kind, (good, bad) in told.items():
            for value in good:
                self.assertIs(fits(value, kind), True, (kind, value))
            for value in bad:
                self.assertIs(fits(value, kind), False, (kind, str(value)[:20]))


SOME = {
    "bool": [True, False], "int": [0, 1, -1, 2, 7, 12, -40, 9999, LIMIT, -LIMIT],
    "text": ["", "a", "ab", " b ", "12", "-3", "1.5", "2026-02-28", "a*", "?", "\\", "x" * 10000],
    "date": [-719162, 2932896, 0, 58, 59, 20000, -1], "decimal": [0, 1, -1, 10000, 15000, -25000, LIMIT, -LIMIT],
}


def random_expression(chance, depth):
    if depth == 0 or chance.random() < 0.2:
        if chance.random() < 0.35:
            return constant(chance.choice([None, True, False, 0, 1, -2, 5, "a", "", "7"]))
        return column(chance.randrange(len(COLUMNS)))
    shape = chance.randrange(4)
    parts = [random_expression(chance, depth - 1) for _ in range(3)]
    if shape == 0:
        return unary(chance.choice(UNARY), parts[0])
    if shape == 1:
        return binary(chance.choice(BINARY), parts[0], parts[1])
    if shape == 2:
        return ternary(chance.choice(TERNARY), *parts)
    return choice(*parts)


def random_row(chance):
    return [None if nullable and chance.random() < 0.3 else chance.choice(SOME[kind]) for kind, nullable in COLUMNS]


class Promises(unittest.TestCase):
    def test_values_fit_kinds(self):
        chance = random.Random(19)
        looked_at = 0
        while looked_at < 1500:
            expression = random_expression(chance, chance.randrange(1, 4))
            told = kind_of(expression, COLUMNS)
            if told is None:
                continue
            looked_at += 1
            for _ in range(4):
                value = evaluate(expression, random_row(chance))
                if value is None:
                    self.assertIs(told[1], True, expression)
                elif told[0] in ("int", "decimal"):
                    self.assertIs(isinstance(value, int) and not isinstance(value, bool), True, expression)
                else:
                    self.assertIs(fits(value, told[0]), True, (expression, told))

    def test_folded_moved_and_replaced(self):
        chance = random.Random(20)
        for _ in range(1500):
            expression = random_expression(chance, chance.randrange(0, 4))
            row = random_row(chance)
            value = evaluate(expression, row)
            self.assertTrue(is_exactly(evaluate(folded(expression), row), value), expression)
            front = random_row(chance)[:3]
            self.assertTrue(is_exactly(evaluate(moved(expression, 3), front + row), value), expression)
            parts = [random_expression(chance, 1) for _ in range(chance.randrange(len(COLUMNS) + 1))]
            there = evaluate_all(parts, row)
            self.assertTrue(is_exactly(evaluate(replaced(expression, parts), row), evaluate(expression, there)))


if __name__ == "__main__":
    unittest.main()
