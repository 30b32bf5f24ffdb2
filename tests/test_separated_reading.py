"""Points 145 to 152: rows that are read from texts with separators."""

import random
import unittest

from stylobate.errors import InvalidText
from stylobate.separated.reading import read_separated
from stylobate.separated.writing import write_separated
from stylobate.storage.tables import Column
from tests.samples import is_exactly

COLUMNS = [Column("id", "int", False), Column("name", "text", True), Column("paid", "bool", True),
           Column("day", "date", True), Column("total", "decimal", True)]
TWO = [Column("a", "int", True), Column("b", "text", False)]


class Reading(unittest.TestCase):
    def check(self, text, wanted, columns=COLUMNS, **options):
        self.assertTrue(is_exactly(read_separated(text, columns, **options), wanted), text)

    def fault(self, marked, reason, columns=COLUMNS, **options):
        """The fault stands where the sign ^ stands in the text."""
        with self.assertRaises(InvalidText) as caught:
            read_separated(marked.replace("^", ""), columns, **options)
        self.assertEqual((caught.exception.offset, caught.exception.reason), (marked.index("^"), reason), marked)

    def test_values(self):
        self.check("id,name,paid,day,total\n1,Ann,true,2026-01-31,12.5\n-2,,false,,-0.0001\n",
                   [[1, "Ann", True, 20484, 125000], [-2, None, False, None, -1]])
        self.check("007,\"\",,0001-01-01,3", [[7, "", None, -719162, 30000]], head=False)
        self.check("\"1\",\"a,\"\"b\"\"\",\"true\",\"9999-12-31\",\"-1.5\"", [[1, "a,\"b\"", True, 2932896, -15000]], head=False)
        self.check("1000000000000000,-,,,100000000000", [[10 ** 15, "-", None, None, 10 ** 15]], head=False)
        self.check("0, a ,,,", [[0, " a ", None, None, None]], head=False)
        self.check("1," + "x" * 10000 + ",,,", [[1, "x" * 10000, None, None, None]], head=False)

    def test_heads(self):
        self.check("total,id\n1,2", [[2, None, None, None, 10000]])
        self.check("id\n1\n2\n", [[1, None, None, None, None], [2, None, None, None, None]])
        self.check("\"id\",\"name\"\n5,x", [[5, "x", None, None, None]])
        self.check("id\n", [])
        self.check("id", [])
        self.check("", [], head=False)
        self.check("b;a\nx;1\n", [[1, "x"]], TWO, separator=";")
        quoted = [Column("a,b", "int", True), Column("c\"d", "int", True)]
        self.check("\"c\"\"d\",\"a,b\"\n1,2\n", [[2, 1]], quoted)

    def test_empty_lines(self):
        one = [Column("a", "int", True)]
        self.check("a\n\n1\n\n", [[None], [1], [None]], one)
        self.check("\n", [[None]], one, head=False)
        self.fault("a,b\n^\n1,x", "2 fields are expected", TWO)

    def test_faults_of_heads(self):
        self.fault("^", "a head is expected")
        self.fault("id,^nme", "unknown column nme")
        self.fault("^ID", "unknown column ID")
        self.fault("^\nid", "unknown column ")
        self.fault("^\"i d\",id", "unknown column i d")
        self.fault("id,name,^id", "the column stands twice: id")
        self.fault("id,^\"id\",nme", "the column stands twice: id")
        self.fault("^name,total", "the column is missing: id")
        self.fault("^a", "the column is missing: b", TWO)
        both = [Column("a", "int", False), Column("b", "int", False), Column("c", "int", True)]
        self.fault("^c\n1", "the column is missing: a", both)
        self.fault("^a\n1", "the column is missing: b", both)

    def test_the_number_of_fields(self):
        self.fault("a,b\n^1", "2 fields are expected", TWO)
        self.fault("a,b\n1,x,^y,z", "2 fields are expected", TWO)
        self.fault("a,b\n1,x\n^\"2\"", "2 fields are expected", TWO)
        self.fault("b\nx,^y", "1 fields are expected", TWO)
        self.fault("^1", "2 fields are expected", TWO, head=False)
        self.fault("1,x,^", "2 fields are expected", TWO, head=False)

    def test_faults_of_fields(self):
        for text, reason in (("^,x,,,", "a value is expected"), ("^\"\",x,,,", "an integer is expected"),
                             ("^1.0,x,,,", "an integer is expected"), ("^ 1,x,,,", "an integer is expected"),
                             ("^+1,x,,,", "an integer is expected"), ("^1000000000000001,x,,,", "an integer is expected"),
                             ("1," + "^" + "x" * 10001 + ",,,", "the text is too long"),
                             ("1,x,^True,,", "true or false is expected"), ("1,x,^\"\",,", "true or false is expected"),
                             ("1,x,^1,,", "true or false is expected"), ("1,x,,^2026-02-29,", "a date is expected"),
                             ("1,x,,^2026-2-1,", "a date is expected"), ("1,x,,^\"\",", "a date is expected"),
                             ("1,x,,,^1.", "a decimal is expected"), ("1,x,,,^1.00001", "a decimal is expected"),
                             ("1,x,,,^100000000000.0001", "a decimal is expected"), ("1,x,,,^\"x\"", "a decimal is expected")):
            self.fault(text, reason, head=False)
        self.fault("2,^\n", "a value is expected", TWO, head=False)
        self.fault("a,b\n,^", "a value is expected", TWO)

    def test_which_fault_comes_first(self):
        # A fault of a quotation mark anywhere, then the head, then record by record from the left.
        self.fault("nme\n1,x^\"", "a quotation mark stands in a field without quotation marks")
        self.fault("a,b\nx,y\n\"1\"^2", "a separator is expected", TWO)
        self.fault("^nme\nx", "unknown column nme")
        self.fault("a,b\n^x,", "an integer is expected", TWO)
        self.fault("a,b\n1,x\n2,^\nx", "a value is expected", TWO)
        self.fault("a,b\nx,y,^z", "2 fields are expected", TWO)
        self.fault("a,b\n1,x\n^x,y\n1", "an integer is expected", TWO)

    def test_what_is_written_is_read(self):
        chance = random.Random(152)
        kinds = ["bool", "int", "text", "date", "decimal"]
        values = {"bool": [True, False], "int": [0, -5, 10 ** 15], "text": ["", "a", "a,b", "\"", "\"\"", ";", " ", "null"],
                  "date": [-719162, 0, 2932896], "decimal": [0, -1, 125000, 10 ** 15, -10 ** 15]}
        for _ in range(200):
            told = [(f"c{number}" + chance.choice(["", ",", "\"", " "]), chance.choice(kinds))
                    for number in range(chance.randrange(1, 5))]
            rows = [[chance.choice(values[kind] + [None]) for _, kind in told] for _ in range(chance.randrange(4))]
            columns = [Column(name, kind, True) for name, kind in told]
            separator, head = chance.choice(",; x'"), chance.random() < 0.5
            text = write_separated(told, rows, separator=separator, head=head)
            self.check(text, rows, columns, separator=separator, head=head)
            if text.endswith("\n") and not text.endswith("\n\n") and text != "\n":
                self.check(text[:-1], rows, columns, separator=separator, head=head)
