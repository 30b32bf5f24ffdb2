"""Points 75, 76 and 78: encoded columns."""

import random
import unittest

from stylobate.storage.columns import Encoded, column_size, encode_as, encode_column
from stylobate.storage.forms import FORMS
from stylobate.storage.writing import column_octets
from tests.samples import LIMIT, VALUES, is_exactly


def lists():
    """Columns of every kind and length, with None anywhere."""
    chance = random.Random(75)
    yield []
    yield VALUES
    for value in VALUES:
        yield [value]
        yield [value] * 30
        yield [None, value]
        yield [value, None]
        yield [None, None, value, None]
    for many in range(1, 40):
        yield [None] * many
        yield [chance.choice(VALUES) for _ in range(many)]
        yield [None] + list(range(many)) + [None]
        yield [chance.choice([None, True, False]) for _ in range(many)]
        yield [chance.choice([None, "red", "green"]) for _ in range(many)]
        yield [chance.choice([None, 5, 6, 7]) for _ in range(many)]
        yield sorted(chance.randrange(-LIMIT, LIMIT) for _ in range(many))
        yield [value for value in (1, 2, 3) for _ in range(many)]


class Columns(unittest.TestCase):
    def check_form(self, values, form):
        self.assertEqual(encode_column(values).form, form)

    def test_read_again(self):
        for values in lists():
            kept = list(values)
            for encoded in [encode_column(values)] + [encode_as(form, values) for form in FORMS]:
                if encoded is not None:
                    self.assertTrue(is_exactly(encoded.decoded(), kept), (encoded.form, kept))
                    self.assertEqual(encoded.length, len(kept))
                    mask = [value is None for value in kept]
                    self.assertEqual(encoded.mask, mask if True in mask else None)
                    self.assertEqual(encoded.body[0], encoded.form)
            self.assertTrue(is_exactly(values, kept))

    def test_the_least_size_and_then_the_least_number(self):
        for values in lists():
            told = [encode_as(form, values) for form in FORMS]
            sizes = [(column_size(encoded), number) for number, encoded in enumerate(told) if encoded is not None]
            self.assertEqual(encode_column(values), told[min(sizes)[1]], values)
            for encoded in told:
                if encoded is not None:
                    self.assertEqual(column_size(encoded), len(column_octets(encoded)))

    def test_forms_that_are_taken(self):
        self.check_form([], "plain")
        self.check_form([None, None], "plain")
        self.check_form(["ab"], "plain")
        self.check_form([5] * 9, "constant")
        self.check_form(["a"] * 9 + ["b"] * 9, "runs")
        self.check_form(["one", "two", "one", "two", "one"], "dictionary")
        self.check_form([3, 1, 2, 0, 3, 1, 1], "packed")
        self.check_form(list(range(0, 700, 7)), "deltas")
        # A constant is as large as one run, and has the lesser number.
        self.assertEqual(column_size(encode_as("constant", [9, 9, 9])), column_size(encode_as("runs", [9, 9, 9])) - 1)
        # Plain and dictionary may be of one size.
        self.assertEqual(column_size(encode_as("plain", [True, False])), 6)

    def test_forms_of_one_size(self):
        told = [(column_size(encode_as("packed", values)), column_size(encode_as("deltas", values)), values)
                for values in lists() if encode_as("deltas", values) is not None]
        ties = [values for packed, deltas, values in told if packed == deltas]
        self.assertTrue(ties)
        for values in ties:
            self.assertNotEqual(encode_column(values).form, "deltas")

    def test_a_form_that_is_not_possible(self):
        self.assertIsNone(encode_as("constant", []))
        self.assertIsNone(encode_as("constant", [None]))
        self.assertIsNone(encode_as("constant", [1, True]))
        self.assertIsNone(encode_as("deltas", [None, None]))
        for form in ("packed", "deltas"):
            self.assertIsNone(encode_as(form, [1, None, "a"]))
            self.assertIsNone(encode_as(form, [1, True]))
        self.assertEqual(encode_as("packed", [None]), Encoded(1, [True], ("packed", 0, 0, 0, 0)))
        self.assertEqual(encode_as("deltas", [None, 4]), Encoded(2, [True, False], ("deltas", 4, 0, 1, 0, 0)))
        self.assertIsNone(encode_as("zip", [1]))

    def test_equal_ones(self):
        one = Encoded(2, [True, False], ("plain", (1,)))
        self.assertTrue(one == Encoded(2, [True, False], ("plain", (1,))))
        self.assertFalse(one != Encoded(2, [True, False], ("plain", (1,))))
        for other in (Encoded(3, [True, False], ("plain", (1,))), Encoded(2, None, ("plain", (1,))),
                      Encoded(2, [False, True], ("plain", (1,))), Encoded(2, [True, False], ("plain", (True,))),
                      Encoded(2, [True, False], ("plain", (1, 2))), Encoded(2, [True, False], ("plain", ())),
                      Encoded(2, [True, False], ("constant", 1, 1)), Encoded(2, [True, False], ("plain", ("1",)))):
            self.assertFalse(one == other)
        self.assertFalse(Encoded(1, None, ("runs", ((1, 1),))) == Encoded(1, None, ("runs", ((True, 1),))))
        self.assertTrue(Encoded(1, None, ("runs", ((1, 1),))) == Encoded(1, None, ("runs", ((1, 1),))))
        self.assertFalse(Encoded(1, None, ("plain", (0,))) == Encoded(1, None, ("plain", (False,))))
        told = [encode_as(form, [4, 4]) for form in FORMS]
        for at, encoded in enumerate(told):
            self.assertEqual([encoded == other for other in told], [at == place for place in range(len(told))])
        for other in (None, 1, "plain", (2, [True, False], ("plain", (1,))), [one]):
            self.assertFalse(one == other)

    def test_the_mask_is_a_copy(self):
        mask = [True, False]
        encoded = Encoded(2, mask, ("plain", (1,)))
        mask[0] = False
        self.assertEqual(encoded.mask, [True, False])
        encoded.decoded().append(5)
        self.assertEqual(encoded.decoded(), [None, 1])

    def test_a_mask_without_a_none(self):
        self.assertEqual(Encoded(2, [False, False], ("plain", (1, 2))).decoded(), [1, 2])


if __name__ == "__main__":
    unittest.main()
