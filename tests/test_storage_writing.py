"""Points 93, 94, 95, 97 and 98: octets of numbers, values and encoded columns, and the checksum."""

import random
import unittest
import zlib

from stylobate.storage.columns import Encoded, column_size, encode_as
from stylobate.storage.writing import (
    bits_octets, checksum, column_octets, integer_octets, number_octets, text_octets, value_octets, values_octets,
)
from tests.samples import LIMIT, VALUES


class Octets(unittest.TestCase):
    def test_numbers(self):
        told = [(0, [0]), (1, [1]), (127, [127]), (128, [128, 1]), (129, [129, 1]), (255, [255, 1]), (256, [128, 2]),
                (16383, [255, 127]), (16384, [128, 128, 1]), (2 ** 21 - 1, [255, 255, 127]),
                (2 ** 63, [128] * 9 + [1]), (2 ** 70 - 1, [255] * 9 + [127])]
        for number, octets in told:
            self.assertEqual(number_octets(number), octets)

    def test_numbers_end_as_they_must(self):
        for number in list(range(3000)) + [2 ** power + more for power in range(12, 70) for more in (-1, 0, 1)]:
            octets = number_octets(number)
            self.assertEqual(sum((octet & 127) << (7 * at) for at, octet in enumerate(octets)), number)
            self.assertTrue(all(octet >= 128 for octet in octets[:-1]) and octets[-1] < 128)
            self.assertTrue(octets[-1] != 0 or len(octets) == 1)

    def test_integers(self):
        told = [(0, [0]), (-1, [1]), (1, [2]), (-2, [3]), (2, [4]), (63, [126]), (-64, [127]), (64, [128, 1]),
                (-65, [129, 1]), (LIMIT, number_octets(2 * LIMIT)), (-LIMIT, number_octets(2 * LIMIT - 1))]
        for integer, octets in told:
            self.assertEqual(integer_octets(integer), octets)

    def test_texts(self):
        self.assertEqual(text_octets(""), [0])
        self.assertEqual(text_octets(" A~"), [3, 32, 65, 126])
        self.assertEqual(text_octets("a" * 128), [128, 1] + [97] * 128)
        self.assertEqual(text_octets("\"'\\"), [3, 34, 39, 92])

    def test_values(self):
        told = [(None, [0]), (False, [1]), (True, [2]), (0, [3, 0]), (1, [3, 2]), (-1, [3, 1]), (200, [3, 144, 3]),
                ("", [4, 0]), ("ab", [4, 2, 97, 98])]
        for value, octets in told:
            self.assertEqual(value_octets(value), octets)
        self.assertEqual(values_octets([value for value, _ in told]), [octet for _, octets in told for octet in octets])
        self.assertEqual(values_octets([]), [])

    def test_different_values_have_different_octets(self):
        self.assertEqual(len({tuple(value_octets(value)) for value in VALUES}), len(VALUES))

    def test_bits(self):
        self.assertEqual(bits_octets(0, 0), [])
        self.assertEqual(bits_octets(0, 1), [0])
        self.assertEqual(bits_octets(1, 1), [1])
        self.assertEqual(bits_octets(0b10000001, 8), [129])
        self.assertEqual(bits_octets(0b110000001, 9), [129, 1])
        self.assertEqual(bits_octets(0b110000001, 16), [129, 1])
        self.assertEqual(bits_octets(0b110000001, 17), [129, 1, 0])
        self.assertEqual(bits_octets(2 ** 24 - 1, 24), [255, 255, 255])
        for many in range(70):
            self.assertEqual(len(bits_octets(0, many)), many // 8 + (1 if many % 8 else 0))

    def test_checksum(self):
        told = [([], 0), ([0], 0xD202EF8D), ([0] * 4, 0x2144DF1C), ([255], 0xFF000000), ([255] * 4, 0xFFFFFFFF),
                (list(b"123456789"), 0xCBF43926), (list(b"The quick brown fox jumps over the lazy dog"), 0x414FA339)]
        for octets, number in told:
            self.assertEqual(checksum(octets), number)
        chance = random.Random(98)
        for many in range(100):
            octets = [chance.randrange(256) for _ in range(many)]
            self.assertEqual(checksum(octets), zlib.crc32(bytes(octets)))


class Columns(unittest.TestCase):
    def check(self, encoded, octets):
        self.assertEqual(column_octets(encoded), octets)
        self.assertEqual(column_size(encoded), len(octets))

    def test_plain(self):
        self.check(Encoded(0, None, ("plain", ())), [0, 0, 0, 0])
        self.check(Encoded(2, None, ("plain", ("a", 5))), [0, 0, 2, 2, 4, 1, 97, 3, 10])
        self.check(Encoded(3, [True, False, True], ("plain", (True,))), [0, 1, 3, 5, 1, 2])

    def test_constant(self):
        self.check(Encoded(200, None, ("constant", -1, 200)), [1, 0, 200, 1, 3, 1, 200, 1])

    def test_runs(self):
        self.check(Encoded(3, None, ("runs", ((1, 2), ("a", 1)))), [2, 0, 3, 2, 3, 2, 2, 4, 1, 97, 1])
        self.check(Encoded(1, [True], ("runs", ())), [2, 1, 1, 1, 0])

    def test_dictionary(self):
        self.check(Encoded(3, None, ("dictionary", ("b", "a"), 3, 1, 2)),
                   [3, 0, 3, 2, 4, 1, 98, 4, 1, 97, 3, 1, 2])
        self.check(Encoded(1, [True], ("dictionary", (), 0, 0, 0)), [3, 1, 1, 1, 0, 0, 0])
        self.check(encode_as("dictionary", list(range(5)) * 2),
                   [3, 0, 10, 5, 3, 0, 3, 2, 3, 4, 3, 6, 3, 8, 10, 3, 0b10001000, 0b01000110, 0b01000100, 0b00100011])

    def test_packed(self):
        self.check(Encoded(3, None, ("packed", 5, 3, 2, 0b010010)), [4, 0, 3, 10, 3, 2, 18])
        self.check(Encoded(1, [True], ("packed", 0, 0, 0, 0)), [4, 1, 1, 1, 0, 0, 0])
        self.check(Encoded(2, None, ("packed", -1, 2, 5, 0b1111100001)), [4, 0, 2, 1, 2, 5, 225, 3])

    def test_deltas(self):
        self.check(Encoded(3, None, ("deltas", 10, -2, 3, 2, 0b1100)), [5, 0, 3, 20, 3, 3, 2, 12])
        self.check(Encoded(1, None, ("deltas", -7, 0, 1, 0, 0)), [5, 0, 1, 13, 0, 1, 0])
        self.check(Encoded(2, None, ("deltas", 0, 0, 2, 8, 255)), [5, 0, 2, 0, 0, 2, 8, 255])

    def test_masks(self):
        # The mask has a bit for each row, 1 for None, the lowest first.
        marks = [True, False] * 4 + [True]
        self.check(Encoded(9, marks, ("plain", (True,) * 4)), [0, 1, 9, 0b01010101, 1, 4, 2, 2, 2, 2])
        self.check(Encoded(2, [False, False], ("constant", True, 2)), [1, 1, 2, 0, 2, 2])


if __name__ == "__main__":
    unittest.main()
