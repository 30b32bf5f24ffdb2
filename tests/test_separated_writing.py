"""Point 152: rows written as texts with separators."""

import csv
import io
import random
import unittest

from stylobate.separated.writing import write_separated
from tests.samples import LIMIT

COLUMNS = [("id", "int"), ("word", "text"), ("flag", "bool"), ("day", "date"), ("sum", "decimal")]


class Writing(unittest.TestCase):
    def check(self, columns, rows, wanted, **options):
        kept = [list(row) for row in rows]
        self.assertEqual(write_separated(columns, rows, **options), wanted)
        self.assertEqual(rows, kept)

    def one(self, value, kind, wanted, separator=","):
        self.check([("x", kind)], [[value]], wanted + "\n", separator=separator, head=False)

    def test_every_kind(self):
        rows = [[1, "a", True, 0, 125000], [None, None, None, None, None], [-5, "b c", False, -719162, -500]]
        body = "1,a,true,1970-01-01,12.5\n,,,,\n-5,b c,false,0001-01-01,-0.05\n"
        self.check(COLUMNS, rows, "id,word,flag,day,sum\n" + body)
        self.check(COLUMNS, rows, "id,word,flag,day,sum\n" + body, head=True, separator=",")
        self.check(COLUMNS, rows, body, head=False)
        self.check(COLUMNS, rows, "id;word;flag;day;sum\n" + body.replace(",", ";"), separator=";")

    def test_values(self):
        for value, kind, wanted in (
                (0, "int", "0"), (LIMIT, "int", "1000000000000000"), (-LIMIT, "int", "-1000000000000000"),
                (True, "bool", "true"), (False, "bool", "false"), (2932896, "date", "9999-12-31"),
                (30000, "decimal", "3"), (1, "decimal", "0.0001"), (-LIMIT, "decimal", "-100000000000"),
                ("true", "text", "true"), ("12", "text", "12"), (" ", "text", " "), ("it's", "text", "it's")):
            self.one(value, kind, wanted)
        for kind in ("int", "bool", "date", "decimal", "text"):
            self.one(None, kind, "")

    def test_none_beside_the_empty_text(self):
        self.one("", "text", '""')
        self.check([("a", "text"), ("b", "text")], [[None, ""], ["", None], [None, None]], 'a,b\n,""\n"",\n,\n')
        self.check([("a", "text")], [[None], [""]], 'a\n\n""\n')

    def test_quotation_marks(self):
        self.one('"', "text", '""""')
        self.one('a"b', "text", '"a""b"')
        self.one('""', "text", '""""""')
        self.one("a,b", "text", '"a,b"')
        self.one("a\nb", "text", '"a\nb"')
        self.one("\n", "text", '"\n"')
        self.one("a;b", "text", "a;b")
        self.one("a;b", "text", '"a;b"', ";")
        self.one("a,b", "text", "a,b", ";")
        self.one(" a ", "text", '" a "', " ")

    def test_separators_that_stand_in_other_values(self):
        self.one(-5, "int", '"-5"', "-")
        self.one(5, "int", "5", "-")
        self.one(105, "int", '"105"', "0")
        self.one(0, "date", '"1970-01-01"', "-")
        self.one(125000, "decimal", '"12.5"', ".")
        self.one(120000, "decimal", "12", ".")
        self.one(True, "bool", '"true"', "t")
        self.one(False, "bool", "false", "t")
        self.one(None, "bool", "", "t")

    def test_heads(self):
        self.check([("a", "int")], [], "a\n")
        self.check([("a", "int")], [], "", head=False)
        self.check([("a,b", "int"), ('say "x"', "int"), ("t\n", "int"), ("", "int"), ("ok", "int")], [],
                   '"a,b","say ""x""","t\n","",ok\n')
        self.check([("a.b", "int"), ("b", "int")], [[1, 2]], '"a.b".b\n1.2\n', separator=".")

    def test_by_chance(self):
        chance = random.Random(152)
        signs = 'ab ,;"\n|'
        for _ in range(300):
            separator = chance.choice([",", ";", "|"])
            rows = [["".join(chance.choice(signs) for _ in range(chance.randrange(5))) for _ in range(3)]
                    for _ in range(chance.randrange(5))]
            columns = [(name, "text") for name in ("x", "y,z", 'q"')]
            text = write_separated(columns, rows, separator=separator)
            read = list(csv.reader(io.StringIO(text, newline=""), delimiter=separator))
            self.assertEqual(read, [["x", "y,z", 'q"']] + rows)


if __name__ == "__main__":
    unittest.main()
