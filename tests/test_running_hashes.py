"""Points 110 and 111: hashes of lists of values, and the parts of hashes."""

import unittest

from stylobate.running.hashes import hash_of, part_of


class Hashes(unittest.TestCase):
    def test_worked_by_hand(self):
        # 17 * 131 = 2227, and then the hash of the one value is added.
        cases = [
            ([], 17), ([None], 2227), ([False], 2228), ([True], 2229), ([0], 2230), ([1], 2231), ([5], 2235),
            ([1000002], 2229), ([1000003], 2230), ([1000004], 2231), ([-1], 2229), ([-1000003], 2230),
            ([""], 2237), ([" "], 2227 + 1000006 + 249 - 1000003), (["a"], 2544), (["ab"], 12062),
            ([None, None], 2227 * 131), ([None, 1], 2227 * 131 + 4), ([1, None], 2231 * 131),
            ([True, "a"], 2229 * 131 + 1000006 + 314 - 1000003),
        ]
        for values, wanted in cases:
            self.assertEqual(hash_of(values), wanted, values)
            self.assertEqual(hash_of(tuple(values)), wanted, values)

    def test_remainders(self):
        number = 17
        for _ in range(5):
            number = (number * 131 + 3 + 999999) % 1000003
        self.assertEqual(hash_of([999999] * 5), number)
        letters = 7
        for sign in "~" * 50 + " A":
            letters = (letters * 31 + ord(sign)) % 1000003
        self.assertEqual(hash_of(["~" * 50 + " A"]), (2227 + 1000006 + letters) % 1000003)
        self.assertEqual(hash_of([10 ** 15]), (2227 + 3 + 10 ** 15 % 1000003) % 1000003)
        self.assertEqual(hash_of([-10 ** 15]), (2227 + 3 + (-10 ** 15) % 1000003) % 1000003)

    def test_values_of_several_kinds_differ(self):
        values = [None, False, True, 0, 1, 2, "", "0", "1", "a"]
        self.assertEqual(len({hash_of([value]) for value in values}), len(values))

    def test_parts(self):
        cases = [(0, (0, 0, 0)), (7, (0, 0, 7)), (8, (0, 1, 0)), (63, (0, 7, 7)), (64, (1, 0, 0)), (511, (7, 7, 7)),
                 (512, (0, 0, 0)), (2544, (7, 6, 0)), (1000002, (1, 0, 2))]
        for number, wanted in cases:
            self.assertEqual(tuple(part_of(number, time) for time in range(3)), wanted, number)
