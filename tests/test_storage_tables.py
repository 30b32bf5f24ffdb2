"""Points 84 to 91: tables, against a plain list of rows."""

import random
import unittest

from stylobate.meaning.order import sorted_rows
from stylobate.storage.columns import encode_as
from stylobate.storage.forms import FORMS
from stylobate.storage.groups import make_group
from stylobate.storage.tables import Column, Table, row_fits
from stylobate.values.expressions import holds
from tests.samples import LIMIT, binary, column, constant, is_exactly, unary

COLUMNS = [Column("id", "int", False), Column("word", "text", True)]


def row(number):
    return [number, f"w{number}"]


def rows(first, behind):
    return [row(number) for number in range(first, behind)]


def table_of(size, *inserts):
    table = Table(COLUMNS, size)
    for more in inserts:
        table.insert(more)
    return table


def lengths(table):
    return [group.many for group in table.groups], len(table.buffer)


def below(bound):
    return binary("less", column(0), constant(bound))


def one_of(*numbers):
    condition = constant(False)
    for number in numbers:
        condition = binary("or", condition, binary("equal", column(0), constant(number)))
    return condition


class Columns(unittest.TestCase):
    def check(self, kind, takes, refuses):
        for nullable in (True, False):
            told = Column("x", kind, nullable)
            for value in takes:
                self.assertIs(told.takes(value), True, (kind, value))
            for value in refuses:
                self.assertIs(told.takes(value), False, (kind, value))
            self.assertIs(told.takes(None), nullable)

    def test_values_that_fit(self):
        self.check("bool", [True, False], [0, 1, "true", ""])
        for kind in ("int", "decimal"):
            self.check(kind, [0, -LIMIT, LIMIT], [-LIMIT - 1, LIMIT + 1, True, False, "1"])
        self.check("date", [0, -719162, 2932896], [-719163, 2932897, True, "2020-01-01", LIMIT])
        self.check("text", ["", "a", "a" * 10000], ["a" * 10001, 1, True])

    def test_equal_columns(self):
        one = Column("a", "int", False)
        self.assertTrue(one == Column("a", "int", False))
        self.assertEqual((one.name, one.kind, one.nullable), ("a", "int", False))
        for other in (Column("b", "int", False), Column("a", "text", False), Column("a", "int", True), "a", None,
                      ("a", "int", False)):
            self.assertFalse(one == other)

    def test_rows_that_fit(self):
        self.assertIs(row_fits(COLUMNS, [1, "a"]), True)
        self.assertIs(row_fits(COLUMNS, [1, None]), True)
        self.assertIs(row_fits([], []), True)
        for other in ([], [1], [1, "a", None], [None, "a"], ["a", 1], [True, "a"], [1, 2]):
            self.assertIs(row_fits(COLUMNS, other), False)


class Layouts(unittest.TestCase):
    def test_an_empty_table(self):
        columns = list(COLUMNS)
        table = Table(columns, 3)
        columns.pop()
        self.assertEqual((table.columns, table.size, table.groups, table.buffer), (COLUMNS, 3, [], []))
        self.assertEqual((table.present_rows(), table.stored(), table.live), ([], 0, 0))
        table.flush()
        table.merge()
        table.cluster([(0, False)])
        self.assertEqual((table.groups, table.buffer, table.delete(constant(True))), ([], [], 0))

    def test_insert(self):
        for size in (1, 2, 3, 5, 100):
            for step in (1, 2, 3, 7, 11):
                table = table_of(size)
                for first in range(0, 22, step):
                    self.assertIsNone(table.insert(rows(first, first + step)))
                    many = first + step
                    self.assertEqual(lengths(table), ([size] * (many // size), many % size))
                    self.assertEqual(table.present_rows(), rows(0, many))
                    self.assertEqual((table.stored(), table.live), (many, many))
        table = table_of(3, rows(0, 2))
        table.insert([])
        self.assertEqual(table.buffer, rows(0, 2))
        table.insert(rows(2, 7))
        self.assertEqual(table.groups[0].columns, make_group(2, rows(0, 3)).columns)

    def test_what_is_inserted_is_copied(self):
        more = rows(0, 3)
        table = table_of(2, more)
        more[2].append(5)
        more.pop()
        self.assertEqual(table.present_rows(), rows(0, 3))
        for found in table.present_rows():
            found.append(1)
        self.assertEqual(table.present_rows(), rows(0, 3))

    def test_delete(self):
        table = table_of(3, rows(0, 8))
        self.assertEqual(table.delete(one_of(1, 2, 5, 7, 99)), 4)
        self.assertEqual(table.present_rows(), [row(0), row(3), row(4), row(6)])
        self.assertEqual([group.dead for group in table.groups], [[False, True, True], [False, False, True]])
        self.assertEqual((table.buffer, table.stored(), table.live), ([row(6)], 7, 4))
        self.assertEqual(table.delete(one_of(1, 2, 5, 7, 99)), 0)
        self.assertEqual(table.delete(constant(None)), 0)
        self.assertEqual(table.delete(constant(True)), 4)
        self.assertEqual((table.present_rows(), table.stored(), table.live, table.buffer), ([], 6, 0, []))

    def test_flush(self):
        table = table_of(4, rows(0, 6))
        self.assertIsNone(table.flush())
        self.assertEqual(lengths(table), ([4, 2], 0))
        self.assertEqual(table.present_rows(), rows(0, 6))
        table.flush()
        self.assertEqual(lengths(table), ([4, 2], 0))
        table.insert(rows(6, 7))
        self.assertEqual(lengths(table), ([4, 2], 1))

    def flushed(self, size, many):
        """A table with groups of these numbers of rows."""
        table = Table(COLUMNS, size)
        first = 0
        for length in many:
            table.insert(rows(first, first + length))
            table.flush()
            first += length
        self.assertEqual(lengths(table), (list(many), 0))
        return table

    def check_merge(self, size, many, wanted):
        table = self.flushed(size, many)
        table.insert(rows(100, 101) if size > 1 else [])
        kept = table.present_rows()
        self.assertIsNone(table.merge())
        self.assertEqual([group.many for group in table.groups], wanted)
        self.assertEqual(table.present_rows(), kept)
        self.assertEqual(table.buffer, rows(100, 101) if size > 1 else [])

    def test_merge_from_the_last_group_to_the_first_one(self):
        self.check_merge(4, [1, 1, 1, 1], [4])
        self.check_merge(4, [1, 1, 1, 1, 1], [1, 4])
        self.check_merge(4, [2, 3, 1], [2, 4])
        self.check_merge(4, [3, 2, 2], [3, 4])
        self.check_merge(4, [1, 3, 2, 2], [4, 4])
        self.check_merge(4, [2, 1, 4, 1, 1], [3, 4, 2])
        self.check_merge(4, [4, 4], [4, 4])
        self.check_merge(4, [2, 4, 2], [2, 4, 2])
        self.check_merge(1, [1, 1, 1], [1, 1, 1])
        self.check_merge(5, [1, 2, 3, 1, 2], [1, 5, 3])

    def test_merge_drops_deleted_rows(self):
        table = self.flushed(4, [4, 4, 2])
        table.delete(one_of(0, 1, 2, 5, 6, 7))
        table.merge()
        self.assertEqual([group.every_row() for group in table.groups], [[row(3), row(4), row(8), row(9)]])
        self.assertEqual([group.dead for group in table.groups], [[False] * 4])
        table.delete(below(100))
        table.merge()
        self.assertEqual((table.groups, table.stored()), ([], 0))

    def test_merge_with_groups_that_have_no_live_rows(self):
        # The one without live rows joins the run behind it, or begins one of its own at the end.
        table = self.flushed(2, [2, 2, 2])
        table.delete(one_of(2, 3))
        table.merge()
        self.assertEqual([group.every_row() for group in table.groups], [rows(0, 2), rows(4, 6)])
        table = self.flushed(2, [2, 2])
        table.delete(one_of(2, 3))
        table.merge()
        self.assertEqual([group.every_row() for group in table.groups], [rows(0, 2)])

    def test_a_whole_group_alone_stays_as_it_is(self):
        table = self.flushed(3, [3, 3, 3])
        for number in range(3):
            self.assertTrue(table.encode_again(number, 0, "plain"))
        table.delete(one_of(4))
        table.merge()
        self.assertEqual([group.columns[0].form for group in table.groups][::2], ["plain", "plain"])
        self.assertEqual(table.groups[1].columns, make_group(2, [row(3), row(5)]).columns)
        self.assertEqual(table.present_rows(), [row(k) for k in range(9) if k != 4])

    def test_encode_again(self):
        table = table_of(3, [[4, "a"], [4, None], [4, "b"], [1, "a"], [2, "a"], [3, None], [9, "z"]])
        kept = table.present_rows()
        for group in (0, 1):
            for number in (0, 1):
                for form in FORMS:
                    values = [found[number] for found in table.groups[group].every_row()]
                    encoded = encode_as(form, values)
                    before = table.groups[group].columns[number]
                    self.assertIs(table.encode_again(group, number, form), encoded is not None)
                    self.assertEqual(table.groups[group].columns[number], before if encoded is None else encoded)
                    self.assertEqual(table.present_rows(), kept)
        self.assertIs(table.encode_again(2, 0, "plain"), False)
        self.assertIs(table.encode_again(0, 2, "plain"), False)
        self.assertIs(table.encode_again(0, 0, "zip"), False)

    def test_cluster(self):
        table = table_of(2, [[3, "a"], [1, "b"], [2, None], [1, "a"], [3, None]])
        self.assertIsNone(table.cluster([(0, False)]))
        wanted = [[1, "a"], [1, "b"], [2, None], [3, None], [3, "a"]]
        self.assertEqual([group.every_row() for group in table.groups], [wanted[:2], wanted[2:4], wanted[4:]])
        self.assertEqual(table.buffer, [])
        table.cluster([(0, True)])
        self.assertEqual(table.present_rows(), [[3, None], [3, "a"], [2, None], [1, "a"], [1, "b"]])
        table.cluster([(1, True), (0, True)])
        self.assertEqual(table.present_rows(), [[1, "b"], [3, "a"], [1, "a"], [3, None], [2, None]])
        table.cluster([])
        self.assertEqual(table.present_rows(), wanted)
        table.delete(one_of(1))
        table.cluster([(0, True)])
        self.assertEqual(lengths(table), ([2, 1], 0))
        self.assertEqual(table.stored(), 3)
        table.delete(constant(True))
        table.cluster([(0, True)])
        self.assertEqual(lengths(table), ([], 0))

    def test_fork(self):
        table = table_of(2, rows(0, 5))
        fork = table.fork()
        self.assertEqual((fork.columns, fork.size, fork.buffer, fork.present_rows()),
                         (table.columns, 2, table.buffer, rows(0, 5)))
        self.assertEqual([group.columns for group in fork.groups], [group.columns for group in table.groups])
        fork.delete(one_of(0, 4))
        fork.insert(rows(7, 8))
        fork.encode_again(1, 0, "plain")
        self.assertEqual(table.present_rows(), rows(0, 5))
        self.assertEqual([group.columns for group in table.groups], [group.columns for group in table_of(2, rows(0, 5)).groups])
        kept = fork.present_rows()
        table.delete(constant(True))
        table.flush()
        table.cluster([(0, True)])
        self.assertEqual(fork.present_rows(), kept)
        table = table_of(2, rows(0, 3))
        fork = table.fork()
        fork.buffer[0].append(1)
        fork.groups[0].dead[0] = True
        fork.columns[0].name = "other"
        self.assertEqual((table.columns, table.present_rows()), (COLUMNS, rows(0, 3)))


class Sequences(unittest.TestCase):
    """Calls by chance, one behind the other, against a plain list of rows."""

    def condition(self, chance):
        number, word = constant(chance.randrange(-2, 12)), constant(chance.choice(["", "a", "b", None]))
        return chance.choice([
            binary("less", column(0), number), binary("equal", column(0), number), binary("at most", number, column(0)),
            unary("is null", column(1)), binary("equal", column(1), word), constant(False), constant(None),
            binary("and", binary("less", column(0), number), unary("not", binary("equal", column(1), word))),
            binary("like", column(1), constant("?*")), binary("equal", binary("rest", column(0), constant(3)), constant(0))])

    def step(self, chance, table, plain):
        """Do one thing, and return the rows that are there then."""
        what = chance.randrange(8)
        if what < 3:
            more = [[chance.randrange(10), chance.choice(["", "a", "b", None])] for _ in range(chance.randrange(6))]
            table.insert(more)
            return plain + more
        if what == 3:
            condition = self.condition(chance)
            kept = [found for found in plain if not holds(condition, found)]
            self.assertEqual(table.delete(condition), len(plain) - len(kept))
            return kept
        if what == 4:
            table.flush()
            self.assertEqual(table.buffer, [])
        elif what == 5:
            table.merge()
        elif what == 6 and table.groups:
            table.encode_again(chance.randrange(len(table.groups)), chance.randrange(2), chance.choice(FORMS))
        elif chance.random() < 0.3:
            keys = [(number, chance.random() < 0.5) for number in chance.sample([0, 1], chance.randrange(3))]
            table.cluster(keys)
            return sorted_rows(plain, [(column(number), descending) for number, descending in keys])
        return plain

    def test_by_chance(self):
        chance = random.Random(84)
        for turn in range(150):
            table = Table(COLUMNS, chance.choice([1, 1, 2, 3, 5, 8]))
            plain = []
            for _ in range(25):
                plain = self.step(chance, table, plain)
                self.assertTrue(is_exactly(table.present_rows(), plain))
                self.assertEqual(table.live, len(plain))
                self.assertLess(len(table.buffer), table.size)
                self.assertTrue(all(1 <= group.many <= table.size for group in table.groups))
                self.assertEqual(table.stored(), sum(group.many for group in table.groups) + len(table.buffer))
                if turn % 5 == 0:
                    self.assertTrue(is_exactly(table.fork().present_rows(), plain))


if __name__ == "__main__":
    unittest.main()
