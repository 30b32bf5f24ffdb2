"""Points 12, 13 and 14: patterns, pieces and letters."""

import itertools
import unittest

from stylobate.values.texts import MOST, is_like, lowered, pieces, raised


def slow_like(text, pattern):
    """The words of the document, one after another."""
    if pattern == "":
        return text == ""
    first, rest = pattern[0], pattern[1:]
    if first == "*":
        return any(slow_like(text[at:], rest) for at in range(len(text) + 1))
    if text == "":
        return False
    if first == "?":
        return slow_like(text[1:], rest)
    if first == "\\" and rest != "":
        return text[0] == rest[0] and slow_like(text[1:], rest[1:])
    return text[0] == first and slow_like(text[1:], rest)


class Like(unittest.TestCase):
    def test_all_short_ones(self):
        texts = ["".join(t) for k in range(4) for t in itertools.product("ab*\\", repeat=k)]
        patterns = ["".join(p) for k in range(5) for p in itertools.product("a*?\\", repeat=k)]
        for pattern in patterns:
            for text in texts:
                self.assertIs(is_like(text, pattern), slow_like(text, pattern), (text, pattern))

    def test_edges(self):
        self.assertIs(is_like("", ""), True)
        self.assertIs(is_like("", "*"), True)
        self.assertIs(is_like("", "?"), False)
        self.assertIs(is_like("a\\", "a\\"), True)
        self.assertIs(is_like("a", "a\\"), False)
        self.assertIs(is_like("a*b", "a\\*b"), True)
        self.assertIs(is_like("axb", "a\\*b"), False)
        self.assertIs(is_like("a?b", "a\\?b"), True)
        self.assertIs(is_like("\\", "\\\\"), True)
        self.assertIs(is_like("x", "\\x"), True)
        self.assertIs(is_like("Berlin", "b*"), False)
        self.assertIs(is_like("say [a.b]+", "*[a.b]+"), True)

    def test_long_ones(self):
        text = "a" * 10000
        self.assertIs(is_like(text, "*a" * 4999 + "b"), False)
        self.assertIs(is_like(text, "*" + "a" * 4000 + "?" * 1000 + "*b"), False)
        self.assertIs(is_like(text, "*" + "a" * 4000 + "?" * 1000 + "*"), True)
        self.assertIs(is_like(text, "?" * 10000), True)
        self.assertIs(is_like(text, "?" * 9999), False)


class Pieces(unittest.TestCase):
    def test_pieces(self):
        self.assertEqual(pieces("a,b,,c", ","), ["a", "b", "", "c"])
        self.assertEqual(pieces("aaa", "aa"), ["", "a"])
        self.assertEqual(pieces("aaaa", "aa"), ["", "", ""])
        self.assertEqual(pieces("abc", ""), ["abc"])
        self.assertEqual(pieces("abc", "x"), ["abc"])
        self.assertEqual(pieces("", "x"), [""])
        self.assertEqual(pieces("", ""), [""])
        self.assertEqual(pieces("abc", "abc"), ["", ""])
        self.assertEqual(pieces("abc", "abcd"), ["abc"])
        found = pieces("a b", " ")
        found.append("c")
        self.assertEqual(pieces("a b", " "), ["a", "b"])


class Letters(unittest.TestCase):
    def test_letters(self):
        signs = "".join(chr(code) for code in range(32, 127))
        self.assertEqual(lowered(signs), "".join(chr(ord(c) + 32) if "A" <= c <= "Z" else c for c in signs))
        self.assertEqual(raised(signs), "".join(chr(ord(c) - 32) if "a" <= c <= "z" else c for c in signs))
        self.assertEqual((lowered(""), raised("")), ("", ""))
        self.assertEqual(MOST, 10000)


if __name__ == "__main__":
    unittest.main()
