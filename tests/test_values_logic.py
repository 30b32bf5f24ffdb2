"""Point 10: three-valued logic."""

import unittest

from stylobate.values.logic import both, either, negated
from stylobate.values.operations import binary, unary

AND = {
    (True, True): True, (True, False): False, (True, None): None,
    (False, True): False, (False, False): False, (False, None): False,
    (None, True): None, (None, False): False, (None, None): None,
}
OR = {
    (True, True): True, (True, False): True, (True, None): True,
    (False, True): True, (False, False): False, (False, None): None,
    (None, True): True, (None, False): None, (None, None): None,
}
UNKNOWN = (None, 0, 1, -1, "", "True", 10 ** 20)


class Logic(unittest.TestCase):
    def test_not(self):
        self.assertIs(negated(True), False)
        self.assertIs(negated(False), True)
        for value in UNKNOWN:
            self.assertIsNone(negated(value))
            self.assertIsNone(unary("not", value))
        self.assertIs(unary("not", False), True)

    def test_all_pairs(self):
        for (first, second), wanted in AND.items():
            self.assertIs(both(first, second), wanted, (first, second))
            self.assertIs(binary("and", first, second), wanted, (first, second))
        for (first, second), wanted in OR.items():
            self.assertIs(either(first, second), wanted, (first, second))
            self.assertIs(binary("or", first, second), wanted, (first, second))

    def test_what_is_no_boolean_is_unknown(self):
        for value in UNKNOWN:
            for known in (True, False, None):
                self.assertIs(both(value, known), AND[(None, known)])
                self.assertIs(both(known, value), AND[(known, None)])
                self.assertIs(either(value, known), OR[(None, known)])
                self.assertIs(either(known, value), OR[(known, None)])
            self.assertIsNone(both(value, value))
            self.assertIsNone(either(value, value))


if __name__ == "__main__":
    unittest.main()
