"""Points 79 to 82: zones, spans of expressions, and conditions that may hold."""

import itertools
import random
import unittest

from stylobate.storage.zones import Zone, may_hold, span_of, zone_of
from stylobate.values.expressions import evaluate
from stylobate.values.operations import BINARY, TERNARY, UNARY
from stylobate.values.order import before
from tests.samples import LIMIT, VALUES, binary, choice, column, constant, is_exactly, ternary, unary

ANY = "any"
NOTHING = (True, None, None)
ALL = (True, False, True)
TRUE, FALSE = (True, True, True), (True, False, False)

# Columns: integers 3 to 8, integers -8 to -3 with None, integers -5 to 2, texts, None alone, booleans, True
# alone, False and None, no rows at all.
ZONES = [Zone(9, 0, 3, 8), Zone(9, 2, -8, -3), Zone(9, 0, -5, 2), Zone(9, 1, "b", "m"), Zone(9, 9, None, None),
         Zone(9, 0, False, True), Zone(9, 0, True, True), Zone(9, 3, False, False), Zone(0, 0, None, None)]
(INTS, LOW, MIXED, TEXTS, NONES, BOOLS, YES, NO, EMPTY) = [column(number) for number in range(9)]
WILD = unary("length", TEXTS)


class Zones(unittest.TestCase):
    def check(self, values, many, nulls, least, greatest):
        zone = zone_of(values)
        told = [zone.many, zone.nulls, zone.least, zone.greatest]
        self.assertTrue(is_exactly(told, [many, nulls, least, greatest]), told)

    def test_zones(self):
        self.check([], 0, 0, None, None)
        self.check([None, None], 2, 2, None, None)
        self.check([3, None, -4, 3], 4, 1, -4, 3)
        self.check([5], 1, 0, 5, 5)
        self.check([True, False, None], 3, 1, False, True)
        self.check([True, 1, 0], 3, 0, True, 1)
        self.check(["b", "ab", ""], 3, 0, "", "b")
        self.check(VALUES[::-1], len(VALUES), 1, False, "~")

    def test_fields(self):
        zone = Zone(4, 1, "a", "b")
        self.assertEqual((zone.many, zone.nulls, zone.least, zone.greatest), (4, 1, "a", "b"))


class Spans(unittest.TestCase):
    def check(self, expression, wanted):
        found = span_of(expression, ZONES)
        self.assertTrue(is_exactly(found, wanted), (expression, found))

    def test_constants_and_columns(self):
        self.check(constant(None), NOTHING)
        for value in VALUES[1:]:
            self.check(constant(value), (False, value, value))
        self.check(INTS, (False, 3, 8))
        self.check(LOW, (True, -8, -3))
        self.check(NONES, NOTHING)
        self.check(EMPTY, (False, None, None))
        self.check(column(9), NOTHING)
        self.assertEqual(span_of(column(0), []), NOTHING)

    def test_not(self):
        self.check(unary("not", BOOLS), ALL)
        self.check(unary("not", YES), FALSE)
        self.check(unary("not", NO), TRUE)
        self.check(unary("not", WILD), ALL)
        for other in (INTS, TEXTS, NONES, EMPTY):
            self.check(unary("not", other), NOTHING)

    def test_is_null(self):
        self.check(unary("is null", INTS), (False, False, False))
        self.check(unary("is null", LOW), (False, False, True))
        self.check(unary("is null", NONES), (False, True, True))
        self.check(unary("is null", EMPTY), (False, None, None))
        self.check(unary("is null", WILD), (False, False, True))
        self.check(unary("is null", constant(None)), (False, True, True))

    def test_numbers(self):
        self.check(unary("negate", INTS), (True, -8, -3))
        self.check(unary("negate", LOW), (True, 3, 8))
        self.check(unary("abs", INTS), (True, 3, 8))
        self.check(unary("abs", LOW), (True, 3, 8))
        self.check(unary("abs", MIXED), (True, 0, 5))
        self.check(unary("abs", constant(0)), (True, 0, 0))
        for name in ("as date", "as decimal"):
            self.check(unary(name, MIXED), (True, -5, 2))
        self.check(unary("to decimal", MIXED), (True, -50000, 20000))
        self.check(unary("to decimal", constant(LIMIT)), (True, 10000 * LIMIT, 10000 * LIMIT))
        for name in ("negate", "abs", "as date", "as decimal", "to decimal"):
            for other in (TEXTS, NONES, BOOLS, EMPTY, WILD, constant(True)):
                self.check(unary(name, other), ANY)
        for name in UNARY:
            if name not in ("not", "is null", "negate", "abs", "as date", "as decimal", "to decimal"):
                self.check(unary(name, INTS), ANY)

    def test_spans_of_integers_alone_are_numbers(self):
        zones = [Zone(2, 0, True, 5), Zone(2, 0, 5, "a")]
        for number in (0, 1):
            self.assertEqual(span_of(unary("negate", column(number)), zones), ANY)
            self.assertEqual(span_of(binary("add", column(number), constant(1)), zones), ANY)

    def test_and_or(self):
        spans = {BOOLS: (True, True), YES: (True, False), NO: (False, True), NONES: (False, False), WILD: (True, True),
                 INTS: (False, False)}
        told = {(True, True): ALL, (True, False): TRUE, (False, True): FALSE, (False, False): NOTHING}
        for one, two in itertools.product(spans, spans):
            (can, fail), (other_can, other_fail) = spans[one], spans[two]
            self.check(binary("and", one, two), told[can and other_can, fail or other_fail])
            self.check(binary("or", one, two), told[can or other_can, fail and other_fail])

    def test_equal(self):
        for value, wanted in ((2, FALSE), (3, ALL), (5, ALL), (8, ALL), (9, FALSE), ("a", FALSE), (True, FALSE)):
            self.check(binary("equal", INTS, constant(value)), wanted)
            self.check(binary("equal", constant(value), INTS), wanted)
        self.check(binary("equal", constant(4), constant(4)), ALL)
        self.check(binary("equal", INTS, LOW), FALSE)
        self.check(binary("equal", INTS, MIXED), FALSE)
        self.check(binary("equal", LOW, MIXED), ALL)

    def test_less(self):
        for value, wanted in ((2, FALSE), (3, FALSE), (4, ALL), (8, ALL), (9, TRUE), ("a", TRUE), (False, FALSE)):
            self.check(binary("less", INTS, constant(value)), wanted)
        for value, wanted in ((2, TRUE), (3, ALL), (7, ALL), (8, FALSE), (9, FALSE), ("a", FALSE), (False, TRUE)):
            self.check(binary("less", constant(value), INTS), wanted)

    def test_at_most(self):
        for value, wanted in ((2, FALSE), (3, ALL), (7, ALL), (8, TRUE), (9, TRUE), ("a", TRUE), (False, FALSE)):
            self.check(binary("at most", INTS, constant(value)), wanted)
        for value, wanted in ((2, TRUE), (3, TRUE), (4, ALL), (8, ALL), (9, FALSE), ("a", FALSE), (False, TRUE)):
            self.check(binary("at most", constant(value), INTS), wanted)

    def test_comparisons_with_what_has_no_values_or_is_anything(self):
        for name in ("equal", "less", "at most"):
            for other in (INTS, TEXTS, NONES, EMPTY, WILD, BOOLS):
                for none in (NONES, EMPTY, constant(None), column(77)):
                    self.check(binary(name, none, other), NOTHING)
                    self.check(binary(name, other, none), NOTHING)
            for other in (INTS, TEXTS, WILD, BOOLS):
                self.check(binary(name, WILD, other), ALL)
                self.check(binary(name, other, WILD), ALL)

    def test_sums(self):
        for name in ("add", "add days"):
            self.check(binary(name, INTS, LOW), (True, -5, 5))
            self.check(binary(name, INTS, constant(10)), (True, 13, 18))
        self.check(binary("subtract", INTS, LOW), (True, 6, 16))
        self.check(binary("subtract", constant(0), MIXED), (True, -2, 5))
        self.check(binary("add", constant(LIMIT), constant(1)), (True, LIMIT + 1, LIMIT + 1))
        for name in ("add", "add days", "subtract"):
            for other in (TEXTS, NONES, EMPTY, WILD, BOOLS, constant(True)):
                self.check(binary(name, INTS, other), ANY)
                self.check(binary(name, other, INTS), ANY)

    def test_coalesce_and_choices(self):
        for make in (lambda one, two: binary("coalesce", one, two), lambda one, two: choice(BOOLS, one, two)):
            self.check(make(INTS, MIXED), (False, -5, 8))
            self.check(make(INTS, LOW), (True, -8, 8))
            self.check(make(LOW, INTS), (True, -8, 8))
            self.check(make(INTS, NONES), (True, 3, 8))
            self.check(make(NONES, INTS), (True, 3, 8))
            self.check(make(EMPTY, INTS), (False, 3, 8))
            self.check(make(NONES, NONES), NOTHING)
            self.check(make(EMPTY, EMPTY), (False, None, None))
            self.check(make(INTS, TEXTS), (True, 3, "m"))
            self.check(make(constant(5), INTS), (False, 3, 8))
            self.check(make(BOOLS, INTS), (False, False, 8))
            for other in (INTS, NONES, EMPTY, WILD):
                self.check(make(WILD, other), ANY)
                self.check(make(other, WILD), ANY)

    def test_all_others(self):
        told = ("and", "or", "equal", "less", "at most", "add", "add days", "subtract", "coalesce")
        for name in BINARY:
            if name not in told:
                self.check(binary(name, INTS, MIXED), ANY)
                self.check(binary(name, constant(None), constant(None)), ANY)
        for name in TERNARY:
            self.check(ternary(name, TEXTS, INTS, INTS), ANY)


class MayHold(unittest.TestCase):
    def test_conditions(self):
        for condition, wanted in (
                (constant(True), True), (constant(False), False), (constant(None), False), (constant(1), False),
                (BOOLS, True), (NO, False), (NONES, False), (INTS, False), (column(50), False), (WILD, True),
                (binary("less", INTS, constant(3)), False), (binary("less", INTS, constant(4)), True),
                (binary("and", BOOLS, binary("equal", INTS, constant(9))), False),
                (binary("or", NO, binary("equal", INTS, constant(8))), True),
                (unary("not", binary("at most", INTS, constant(8))), False),
                (unary("is null", INTS), False), (unary("is null", LOW), True),
                (binary("like", TEXTS, constant("a*")), True),
                (binary("equal", unary("to decimal", INTS), constant(30000)), True),
                (binary("equal", unary("to decimal", INTS), constant(29999)), False)):
            self.assertIs(may_hold(condition, ZONES), wanted, condition)

    def make(self, chance, depth):
        if depth == 0 or chance.random() < 0.2:
            return chance.choice([column(chance.randrange(4)), column(chance.randrange(3)),
                                  constant(chance.choice([None, True, False, 0, 1, 4, -3, LIMIT, "a"]))])
        parts = [self.make(chance, depth - 1) for _ in range(3)]
        form = chance.randrange(6)
        if form == 0:
            name = chance.choice(UNARY[:5] + ("as date", "as decimal", "to decimal") + UNARY)
            return unary(name, parts[0])
        if form == 1:
            return choice(*parts)
        if form == 2 and chance.random() < 0.3:
            return ternary(chance.choice(TERNARY), *parts)
        name = chance.choice(BINARY[:5] * 2 + ("add", "subtract", "add days", "coalesce") + BINARY)
        return binary(name, parts[0], parts[1])

    def test_every_value_lies_in_its_span(self):
        chance = random.Random(80)
        pools = [[0, 1, 2, -3], [None, 4, 9, LIMIT], [True, False, None], [None], ["a", "b", ""], [True], [False],
                 [None, True, 5, "z"], [-LIMIT, 7]]
        refused = 0
        for _ in range(3000):
            chosen = [chance.choice(pools) for _ in range(3)]
            rows = [[chance.choice(pool) for pool in chosen] for _ in range(chance.randrange(1, 6))]
            zones = [zone_of([row[number] for row in rows]) for number in range(3)]
            expression = self.make(chance, 3)
            span = span_of(expression, zones)
            for row in rows:
                value = evaluate(expression, row)
                if span != ANY and value is None:
                    self.assertTrue(span[0], (expression, rows))
                elif span != ANY:
                    self.assertIsNotNone(span[1], (expression, rows))
                    self.assertFalse(before(value, span[1]) or before(span[2], value), (expression, rows))
            if not may_hold(expression, zones):
                refused += 1
                self.assertFalse([row for row in rows if evaluate(expression, row) is True], (expression, rows))
        self.assertGreater(refused, 500)


if __name__ == "__main__":
    unittest.main()
