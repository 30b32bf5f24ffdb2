"""Points 146, 147 and 148: records and fields of texts with separators."""

import unittest

from stylobate.errors import InvalidText
from stylobate.separated.records import Field, split_records

SEPARATOR = "a separator is expected"
ALONE = "a quotation mark stands in a field without quotation marks"
OPEN = "the quotation mark is not closed"


def told(text, separator=","):
    """The fields as tuples; those between quotation marks have a third part."""
    return [[(field.text, field.offset) + (("marked",) if field.marked else ()) for field in record]
            for record in split_records(text, separator)]


class Records(unittest.TestCase):
    def check(self, text, wanted, separator=","):
        self.assertEqual(told(text, separator), wanted, text)

    def fault(self, marked, reason, separator=","):
        """The fault stands where the sign ^ stands in the text."""
        with self.assertRaises(InvalidText) as caught:
            split_records(marked.replace("^", ""), separator)
        self.assertEqual((caught.exception.offset, caught.exception.reason), (marked.index("^"), reason), marked)

    def test_records_and_their_ends(self):
        self.check("", [])
        self.check("a", [[("a", 0)]])
        self.check("a\n", [[("a", 0)]])
        self.check("a\n\n", [[("a", 0)], [("", 2)]])
        self.check("\n", [[("", 0)]])
        self.check("\n\n", [[("", 0)], [("", 1)]])
        self.check("a\nb", [[("a", 0)], [("b", 2)]])
        self.check("a\nb\n", [[("a", 0)], [("b", 2)]])
        self.check("\na", [[("", 0)], [("a", 1)]])

    def test_fields(self):
        self.check("a,b", [[("a", 0), ("b", 2)]])
        self.check(",", [[("", 0), ("", 1)]])
        self.check("a,", [[("a", 0), ("", 2)]])
        self.check("a,\n", [[("a", 0), ("", 2)]])
        self.check(",a\n,,", [[("", 0), ("a", 1)], [("", 3), ("", 4), ("", 5)]])
        self.check(" a , b ", [[(" a ", 0), (" b ", 4)]])
        self.check("it's,x'y", [[("it's", 0), ("x'y", 5)]])

    def test_quotation_marks(self):
        self.check("\"\"", [[("", 0, "marked")]])
        self.check("\"a\"", [[("a", 0, "marked")]])
        self.check("\"a\"\n", [[("a", 0, "marked")]])
        self.check("\"\"\"\"", [[("\"", 0, "marked")]])
        self.check("\"a\"\"b\"\"\",c", [[("a\"b\"", 0, "marked"), ("c", 9)]])
        self.check("x,\"a,b\nc\",\"\"\ny", [[("x", 0), ("a,b\nc", 2, "marked"), ("", 10, "marked")], [("y", 13)]])
        self.check("\"a\",", [[("a", 0, "marked"), ("", 4)]])
        self.check("\"\n\"", [[("\n", 0, "marked")]])

    def test_other_separators(self):
        self.check("a;b,c", [[("a", 0), ("b,c", 2)]], ";")
        self.check("a b", [[("a", 0), ("b", 2)]], " ")
        self.check("axb", [[("a", 0), ("b", 2)]], "x")
        self.check("'a'b'", [[("", 0), ("a", 1), ("b", 3), ("", 5)]], "'")
        self.check("\"a;b\";c", [[("a;b", 0, "marked"), ("c", 6)]], ";")

    def test_faults(self):
        self.fault("\"a\"^b", SEPARATOR)
        self.fault("\"a\"^ ,b", SEPARATOR)
        self.fault("\"\"^a", SEPARATOR)
        self.fault("x\n\"a\"\"\"^;", SEPARATOR)
        self.fault("\"a\"^,", SEPARATOR, ";")
        self.fault("a^\"b", ALONE)
        self.fault("a^\"b\"", ALONE)
        self.fault(" ^\"a\"", ALONE)
        self.fault("x,y\n1,2^\"", ALONE)
        self.fault("^\"a", OPEN)
        self.fault("^\"", OPEN)
        self.fault("a,^\"", OPEN)
        self.fault("^\"a\"\"", OPEN)
        self.fault("x\n^\"a,b\nc\n", OPEN)

    def test_the_first_fault(self):
        self.fault("a^\"b\n\"c", ALONE)
        self.fault("\"a\"^b,c\"d", SEPARATOR)
        self.fault("^\"a,b\nc\"\"d", OPEN)

    def test_a_field(self):
        field = Field("a", 3, True)
        self.assertEqual((field.text, field.offset, field.marked), ("a", 3, True))
        self.assertEqual([record[0].marked for record in split_records("a\n\"a\"", ",")], [False, True])
