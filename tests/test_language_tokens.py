"""Points 21 to 32: tokens, their faults, and nesting."""

import unittest

from stylobate.language.tokens import RESERVED, read_tokens
from tests.queries import fault_of, place_of, query_fault, syntax_fault
from tests.samples import is_exactly

LARGE = "the number is too large"
INVALID = "invalid number"
PARAMETER = "invalid parameter"
UNEXPECTED = "unexpected character"


def token_fault(text):
    return fault_of(read_tokens, text)


class Tokens(unittest.TestCase):
    def check(self, text, wanted):
        found = read_tokens(text)
        self.assertTrue(is_exactly(found, wanted), found)

    def test_words_and_blanks(self):
        self.check("", [])
        self.check(" \n\t ", [])
        self.check("From\tT_1\n_x", [("word", "From", 0), ("word", "T_1", 5), ("word", "_x", 9)])
        self.check("a.b", [("word", "a", 0), ("sign", ".", 1), ("word", "b", 2)])

    def test_comments(self):
        self.check("a -- b 'c \" %\nd", [("word", "a", 0), ("word", "d", 14)])
        self.check("--", [])
        self.check("-- a", [])
        self.check("a--b\n--c\n\n--\nd", [("word", "a", 0), ("word", "d", 13)])
        self.check("1 - -2", [("integer", 1, 0), ("sign", "-", 2), ("sign", "-", 4), ("integer", 2, 5)])
        self.check("1---2\n", [("integer", 1, 0)])
        self.check("'--'", [("text", "--", 0)])

    def test_names_and_texts(self):
        self.check('"a b"', [("name", "a b", 0)])
        self.check('x"a""b"y', [("word", "x", 0), ("name", 'a"b', 1), ("word", "y", 7)])
        self.check('""""', [("name", '"', 0)])
        self.check('"select"', [("name", "select", 0)])
        self.check("'it''s'", [("text", "it's", 0)])
        self.check("''", [("text", "", 0)])
        self.check("''''", [("text", "'", 0)])
        self.check("'a\"b'\"c'd\"", [("text", 'a"b', 0), ("name", "c'd", 5)])
        self.check('"' + "n" * 3900 + '"', [("name", "n" * 3900, 0)])
        self.check("a\n\"b\"\t'c'\n", [("word", "a", 0), ("name", "b", 2), ("text", "c", 6)])

    def test_numbers(self):
        self.check("0 007 1000000000000000", [("integer", 0, 0), ("integer", 7, 2), ("integer", 10 ** 15, 6)])
        self.check("0" * 3000 + "5", [("integer", 5, 0)])
        self.check("1.5 0.0001 01.50 100000000000.0000",
                   [("decimal", 15000, 0), ("decimal", 1, 4), ("decimal", 15000, 11), ("decimal", 10 ** 15, 17)])
        self.check("1.x", [("integer", 1, 0), ("sign", ".", 1), ("word", "x", 2)])
        self.check("1.", [("integer", 1, 0), ("sign", ".", 1)])
        self.check(".5", [("sign", ".", 0), ("integer", 5, 1)])
        self.check("1.2.3", [("decimal", 12000, 0), ("sign", ".", 3), ("integer", 3, 4)])
        self.check("1 .2", [("integer", 1, 0), ("sign", ".", 2), ("integer", 2, 3)])
        self.check("0" * 3000 + "2.5", [("decimal", 25000, 0)])

    def test_parameters(self):
        self.check("$1 $20 $007", [("parameter", 1, 0), ("parameter", 20, 3), ("parameter", 7, 7)])
        self.check("$1.5", [("parameter", 1, 0), ("sign", ".", 2), ("integer", 5, 3)])
        self.check("$1$2", [("parameter", 1, 0), ("parameter", 2, 2)])
        self.check("$" + "0" * 3000 + "9", [("parameter", 9, 0)])

    def test_signs(self):
        text = "( ) [ ] , . * + - / = <> != < <= > >= ||"
        wanted = [sign if sign != "!=" else "<>" for sign in text.split()]
        self.assertEqual([token[1] for token in read_tokens(text)], wanted)
        self.assertEqual([token[0] for token in read_tokens(text)], ["sign"] * 18)
        self.check("<=>", [("sign", "<=", 0), ("sign", ">", 2)])
        self.check("<<>>=", [("sign", "<", 0), ("sign", "<>", 1), ("sign", ">=", 3)])
        self.check("||||", [("sign", "||", 0), ("sign", "||", 2)])
        self.check("=<", [("sign", "=", 0), ("sign", "<", 1)])

    def test_reserved(self):
        self.assertEqual(RESERVED, tuple(
            "with as from left full cross join on where not exists in let select extend group by rollup cube sets "
            "aggregate distinct union intersect except window partition compute order limit offset asc desc nulls "
            "and or is null true false like between case when then else end mod".split()))


class Faults(unittest.TestCase):
    def check(self, marked, reason):
        text, offset = place_of(marked)
        self.assertEqual(token_fault(text), (offset, reason), marked)

    def test_too_long(self):
        self.assertIsNone(token_fault("a" * 4000))
        self.assertEqual(token_fault("a" * 4001), (4000, "the text is too long"))
        self.assertEqual(token_fault("%" + "a" * 4000), (4000, "the text is too long"))
        self.assertEqual(token_fault(" " * 4001), (4000, "the text is too long"))
        self.assertEqual(syntax_fault("from t" + " " * 3994), None)
        self.assertEqual(syntax_fault("from t" + " " * 3995), (4000, "the text is too long"))

    def test_marks(self):
        self.check('a ^"b', "the name is not closed")
        self.check('a ^"', "the name is not closed")
        self.check('a ^"""', "the name is not closed")
        self.check('a ^"b\n\t', "the name is not closed")
        self.check('a ^""', "the name is empty")
        self.check('a ^"" "', "the name is empty")
        self.check("a ^'b", "the text is not closed")
        self.check("a ^'b''", "the text is not closed")
        self.check("a 'b^\nc\t'", UNEXPECTED)
        self.check('a "b""^\tc\n"', UNEXPECTED)
        self.check('a "^\tb"', UNEXPECTED)
        self.check("a '^\n'", UNEXPECTED)
        self.check("a 'b^\t'", UNEXPECTED)

    def test_numbers(self):
        self.check("a ^1000000000000001", LARGE)
        self.check("a ^" + "9" * 3000, LARGE)
        self.check("a ^1a", INVALID)
        self.check("a ^1_", INVALID)
        self.check("a ^" + "9" * 3000 + "a", INVALID)
        self.check("a ^1a.5", INVALID)
        self.check("a ^1.12345", INVALID)
        self.check("a ^1.1a", INVALID)
        self.check("a ^1.1a1", INVALID)
        self.check("a ^1.1_", INVALID)
        self.check("a ^9999999999999999.12345", INVALID)
        self.check("a ^100000000000.0001", LARGE)
        self.check("a ^" + "9" * 3000 + ".1", LARGE)

    def test_parameters(self):
        for text in ("$", "$0", "$21", "$00", "$a", "$1a", "$1_", "$ 1", "$-1", "$" + "9" * 3000, "$020a"):
            self.check("x ^" + text, PARAMETER)

    def test_characters(self):
        for sign in "!|;:?@#&{}~`\\%\r\x00":
            self.check("a ^" + sign + " b", UNEXPECTED)
        self.check("a ^!", UNEXPECTED)
        self.check("a ^|= b", UNEXPECTED)

    def test_the_first_fault(self):
        self.check("^; 'a", UNEXPECTED)
        self.check("^'a ;", "the text is not closed")
        self.check("^1a 'b", INVALID)
        self.check("'a^\n' 1a", UNEXPECTED)

    def test_faults_of_tokens_come_before_all_others(self):
        self.assertEqual(syntax_fault("select ;"), (7, UNEXPECTED))
        self.assertEqual(syntax_fault("(" * 30 + ";"), (30, UNEXPECTED))
        self.assertEqual(query_fault("from nothing where x = 'a"), (23, "the text is not closed"))


class Nesting(unittest.TestCase):
    def nested(self, opening, count, closing):
        return "from t where " + opening * count + "a" + closing * count

    def test_brackets(self):
        self.assertIsNone(syntax_fault(self.nested("(", 20, ")")))
        self.assertEqual(syntax_fault(self.nested("(", 21, ")")), (33, "nested too deeply"))
        self.assertEqual(syntax_fault("[" * 21), (20, "nested too deeply"))
        self.assertEqual(syntax_fault("([" * 10 + "case"), (20, "nested too deeply"))

    def test_words_case(self):
        text = "from t where " + "CASE when a then " * 20 + "a" + " else a end" * 20
        self.assertIsNone(syntax_fault(text))
        self.assertEqual(syntax_fault("case " * 20 + "Case"), (100, "nested too deeply"))
        self.assertEqual(syntax_fault("case " * 20 + '"case"'), (0, "from is expected"))
        self.assertEqual(syntax_fault("case " * 20 + "end END end case case case [ "), (127, "nested too deeply"))

    def test_what_closes(self):
        self.assertEqual(syntax_fault(")" * 50 + "(" * 20), (0, "from is expected"))
        self.assertEqual(syntax_fault(")" * 50 + "(" * 21), (70, "nested too deeply"))
        self.assertEqual(syntax_fault("(" * 20 + "]" + "[" * 2), (22, "nested too deeply"))

    def test_signs_in_a_row(self):
        self.assertIsNone(syntax_fault("from t where " + "not " * 20 + "a"))
        self.assertEqual(syntax_fault("from t where " + "not " * 21 + "a"), (93, "nested too deeply"))
        self.assertIsNone(syntax_fault("from t where " + "- " * 20 + "a"))
        self.assertEqual(syntax_fault("from t where " + "- " * 21 + "a"), (53, "nested too deeply"))
        self.assertIsNone(syntax_fault("from t where " + "not " * 10 + "- " * 10 + "a"))
        self.assertEqual(syntax_fault("NOT - " * 10 + "Not"), (60, "nested too deeply"))
        self.assertEqual(syntax_fault("not " * 20 + "+ " + "not " * 20), (0, "from is expected"))

    def test_before_the_syntax_and_behind_the_tokens(self):
        self.assertEqual(syntax_fault("select" + "(" * 21), (26, "nested too deeply"))
        self.assertEqual(syntax_fault("(" * 21 + "1a"), (21, INVALID))
        self.assertEqual(syntax_fault("- " * 21 + "(" * 21), (40, "nested too deeply"))


class Words(unittest.TestCase):
    def test_small_and_capital_letters(self):
        self.assertIsNone(query_fault("FROM t WHERE a IN (1) AND Not e Or b LIKE 'x' ORDER BY a DESC NULLS FIRST"))
        self.assertIsNone(query_fault("from t where d = DATE '2026-01-01'"))
        self.assertIsNone(query_fault("from t window compute FIRST(a) ROWS 1 BEFORE AND 2 AFTER as x, Before(a) as y, AFTER(a) as z, LAST(a) as w"))

    def test_names(self):
        self.assertEqual(query_fault("from T"), (5, "unknown table T"))
        self.assertEqual(query_fault("from t where A = 1"), (13, "unknown column A"))
        self.assertEqual(query_fault("from t where Lower(b) = 'x'"), (13, "unknown function Lower"))
        self.assertEqual(query_fault("from t aggregate COUNT(*) as n"), (17, "an aggregate is expected"))
        self.assertEqual(query_fault("from t window compute RANK() as n"), (22, "a window function is expected"))


if __name__ == "__main__":
    unittest.main()
