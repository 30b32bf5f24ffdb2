"""Points 76 and 77: numbers that are packed, and the six forms of bodies."""

import itertools
import random
import unittest

from stylobate.storage.forms import FORMS, body_of, values_of
from stylobate.storage.packing import pack, unpack, width_for
from tests.samples import LIMIT, VALUES, is_exactly


class Packing(unittest.TestCase):
    def test_widths(self):
        told = [(0, 0), (1, 1), (2, 2), (3, 2), (4, 3), (255, 8), (256, 9), (2 ** 64 - 1, 64), (2 ** 64, 65)]
        for number, width in told:
            self.assertEqual(width_for(number), width)
        for number in range(1, 300):
            self.assertEqual(width_for(number), len(f"{number:b}"))

    def test_the_first_number_takes_the_lowest_bits(self):
        self.assertEqual(pack([1, 2, 3], 2), 0b111001)
        self.assertEqual(pack([1, 0, 0], 4), 1)
        self.assertEqual(pack([0, 0, 1], 4), 256)
        self.assertEqual(pack([5], 8), 5)
        self.assertEqual(unpack(0b111001, 2, 3), [1, 2, 3])
        self.assertEqual(unpack(0b111001, 1, 6), [1, 0, 0, 1, 1, 1])
        self.assertEqual(unpack(0b111001, 3, 2), [1, 7])

    def test_empty_ones_and_width_0(self):
        for width in (0, 1, 64):
            self.assertEqual(pack([], width), 0)
            self.assertEqual(unpack(0, width, 0), [])
        self.assertEqual(pack([0, 0, 0], 0), 0)
        self.assertEqual(unpack(0, 0, 3), [0, 0, 0])

    def test_there_and_back(self):
        chance = random.Random(77)
        for width in list(range(12)) + [31, 32, 33, 63, 64, 65, 200]:
            for many in (0, 1, 2, 7, 8, 9, 100):
                numbers = [chance.randrange(2 ** width) for _ in range(many)]
                kept = list(numbers)
                self.assertEqual(unpack(pack(numbers, width), width, many), numbers)
                self.assertEqual(pack(numbers, width), sum(n << (width * at) for at, n in enumerate(numbers)))
                self.assertEqual(numbers, kept)


class Forms(unittest.TestCase):
    def check(self, form, present, wanted):
        found = body_of(form, present)
        self.assertTrue(is_exactly(found, wanted), (form, present, found))

    def test_names(self):
        self.assertEqual(FORMS, ("plain", "constant", "runs", "dictionary", "packed", "deltas"))
        self.assertIsNone(body_of("zip", [1]))

    def test_plain(self):
        self.check("plain", [], ("plain", ()))
        self.check("plain", [1, True, "a", 1], ("plain", (1, True, "a", 1)))

    def test_constant(self):
        self.check("constant", [], None)
        self.check("constant", ["a"], ("constant", "a", 1))
        self.check("constant", [True, True, True], ("constant", True, 3))
        self.check("constant", [True, 1], None)
        self.check("constant", [0, False], None)
        self.check("constant", [1, 1, 2], None)
        self.check("constant", ["", "", ""], ("constant", "", 3))

    def test_runs(self):
        self.check("runs", [], ("runs", ()))
        self.check("runs", [5], ("runs", ((5, 1),)))
        self.check("runs", [5, 5, 5], ("runs", ((5, 3),)))
        self.check("runs", [1, True, True, 1, "1", "1"], ("runs", ((1, 1), (True, 2), (1, 1), ("1", 2))))
        self.check("runs", [1, 2, 1], ("runs", ((1, 1), (2, 1), (1, 1))))

    def test_dictionary(self):
        self.check("dictionary", [], ("dictionary", (), 0, 0, 0))
        self.check("dictionary", ["a"], ("dictionary", ("a",), 1, 0, 0))
        self.check("dictionary", ["a", "a"], ("dictionary", ("a",), 2, 0, 0))
        self.check("dictionary", ["b", "a", "b"], ("dictionary", ("b", "a"), 3, 1, 0b010))
        self.check("dictionary", ["b", "a", "c", "a"], ("dictionary", ("b", "a", "c"), 4, 2, 0b01100100))
        self.check("dictionary", [True, 1, "1"], ("dictionary", (True, 1, "1"), 3, 2, 0b100100))
        for many in range(1, 70):
            words = tuple(range(many))
            width = 0 if many == 1 else len(f"{many - 1:b}")
            self.check("dictionary", list(words), ("dictionary", words, many, width, pack(list(words), width)))

    def test_packed(self):
        self.check("packed", [], ("packed", 0, 0, 0, 0))
        self.check("packed", [-7], ("packed", -7, 1, 0, 0))
        self.check("packed", [9, 9], ("packed", 9, 2, 0, 0))
        self.check("packed", [7, 5, 6], ("packed", 5, 3, 2, 0b010010))
        self.check("packed", [-1, 3], ("packed", -1, 2, 3, 0b100000))
        self.check("packed", [-LIMIT, LIMIT], ("packed", -LIMIT, 2, 51, (2 * LIMIT) << 51))
        for other in (True, "1", False):
            self.check("packed", [1, other], None)
            self.check("packed", [other], None)

    def test_deltas(self):
        self.check("deltas", [], None)
        self.check("deltas", [-7], ("deltas", -7, 0, 1, 0, 0))
        self.check("deltas", [4, 4, 4], ("deltas", 4, 0, 3, 0, 0))
        self.check("deltas", [10, 15, 20], ("deltas", 10, 5, 3, 0, 0))
        self.check("deltas", [10, 8, 9], ("deltas", 10, -2, 3, 2, 0b1100))
        self.check("deltas", [1, 0], ("deltas", 1, -1, 2, 0, 0))
        self.check("deltas", [-LIMIT, LIMIT, -LIMIT], ("deltas", -LIMIT, -2 * LIMIT, 3, 52, 4 * LIMIT))
        for other in (True, "1", False):
            self.check("deltas", [1, other], None)
            self.check("deltas", [other], None)

    def lists(self):
        """Lists of every kind and length."""
        chance = random.Random(76)
        values = VALUES[1:]
        yield from ([value] for value in values)
        yield from ([value] * 9 for value in values)
        yield from (list(pair) for pair in itertools.product(values, values))
        yield []
        yield values
        yield values[::-1]
        for many in range(1, 60):
            yield [chance.choice(values) for _ in range(many)]
            yield [chance.randrange(-LIMIT, LIMIT + 1) for _ in range(many)]
            yield [chance.randrange(3) for _ in range(many)]
            yield list(range(many, 0, -1))
            yield sorted(chance.choice(["a", "b", ""]) for _ in range(many))
            yield [chance.random() < 0.5 for _ in range(many)]

    def test_taken_apart_again(self):
        for present in self.lists():
            kept = list(present)
            numbers = all(isinstance(value, int) and not isinstance(value, bool) for value in present)
            alike = all(is_exactly(value, present[0]) for value in present)
            possible = {"plain": True, "constant": bool(present) and alike, "runs": True, "dictionary": True,
                        "packed": numbers, "deltas": numbers and bool(present)}
            for form in FORMS:
                body = body_of(form, present)
                self.assertEqual(body is not None, possible[form], (form, present))
                if body is not None:
                    self.assertEqual(body[0], form)
                    self.assertTrue(is_exactly(values_of(body), kept), (form, kept))
            self.assertTrue(is_exactly(present, kept))

    def test_bodies_that_are_not_as_they_are_made(self):
        # What was read from a file can have such bodies.
        self.assertEqual(values_of(("runs", ((1, 2), (1, 1)))), [1, 1, 1])
        self.assertEqual(values_of(("dictionary", ("a", "a", "b"), 3, 5, pack([2, 1, 0], 5))), ["b", "a", "a"])
        self.assertEqual(values_of(("packed", -5, 2, 9, pack([4, 5], 9))), [-1, 0])
        self.assertEqual(values_of(("deltas", 3, -4, 3, 7, pack([4, 0], 7))), [3, 3, -1])


if __name__ == "__main__":
    unittest.main()
