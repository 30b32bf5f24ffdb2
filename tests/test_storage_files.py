"""Points 92 to 99: tables as octets, and octets as tables."""

import random
import unittest
import zlib

from stylobate.errors import InvalidFile
from stylobate.storage.columns import Encoded
from stylobate.storage.files import in_order, read_table, write_table
from stylobate.storage.forms import FORMS
from stylobate.storage.groups import Group
from stylobate.storage.packing import pack
from stylobate.storage.tables import Column, Table
from stylobate.storage.writing import column_octets, integer_octets, number_octets, text_octets, value_octets
from tests.samples import LIMIT, binary, column, constant, is_exactly

KINDS = ("bool", "int", "text", "date", "decimal")
MARK = [67, 76, 78, 49]
INT = Column("n", "int", True)
TEXT = Column("n", "text", True)
HUGE = 2 ** 69


def sealed(octets):
    """The octets with their checksum behind."""
    number = zlib.crc32(bytes(octets))
    return octets + [(number >> (8 * at)) & 255 for at in range(4)]


def file_of(columns, size, groups, rows=()):
    """The octets of a table; columns and groups are given as octets."""
    octets = MARK + number_octets(len(columns)) + sum(columns, []) + number_octets(size)
    octets += number_octets(len(groups)) + sum(groups, [])
    return sealed(octets + number_octets(len(rows)) + sum(rows, []))


def column_head(told):
    return text_octets(told.name) + [KINDS.index(told.kind), 1 if told.nullable else 0]


def group_octets(many, columns, dead=0):
    marks = [(dead >> (8 * at)) & 255 for at in range((many + 7) // 8)]
    return number_octets(many) + marks + sum(columns, [])


def one_column(told, encoded, many=None, size=10):
    """The octets of a table of one column and one group, of the octets of the encoded column."""
    return file_of([column_head(told)], size, [group_octets(many, [encoded])])


def table_with(told, encoded, many=None, size=10):
    """The table of one column with one group."""
    table = Table([told], size)
    many = encoded.length if many is None else many
    table.groups = [Group([encoded], many, [False] * many)]
    return table


def sample(chance, size, many):
    columns = [Column("id", "int", False), Column("word", "text", True), Column("flag", "bool", True),
               Column("day", "date", True), Column("sum", "decimal", False)]
    table = Table(columns, size)
    words = ["", "a", "word", "it's \"~\"", None]
    table.insert([[chance.randrange(-LIMIT, LIMIT + 1), chance.choice(words), chance.choice([True, False, None]),
                   chance.choice([None, chance.randrange(-719162, 2932897)]), at * 7] for at in range(many)])
    return table


def same_tables(one, other):
    """Tell whether two tables have the same columns, groups, marks and buffers."""
    if one.columns != other.columns or one.size != other.size or not is_exactly(one.buffer, other.buffer):
        return False
    return len(one.groups) == len(other.groups) and all(
        a.columns == b.columns and a.many == b.many and a.dead == b.dead for a, b in zip(one.groups, other.groups))


class Files(unittest.TestCase):
    def refused(self, octets, why=None):
        kept = list(octets)
        with self.assertRaises(InvalidFile, msg=why):
            read_table(octets)
        self.assertEqual(octets, kept)

    def read(self, octets):
        table = read_table(octets)
        self.assertIs(in_order(table), True)
        self.assertEqual(write_table(table), octets)
        return table


class Written(Files):
    def test_an_empty_table(self):
        told = Column("a", "int", False)
        octets = sealed(MARK + [1, 1, 97, 1, 0, 3, 0, 0])
        self.assertEqual(write_table(Table([told], 3)), octets)
        table = self.read(octets)
        self.assertTrue(same_tables(table, Table([told], 3)))

    def test_every_part(self):
        columns = [Column("id", "int", False), Column("Day of", "date", True)]
        table = Table(columns, 9)
        table.insert([[number, None if number % 2 else number * 10] for number in range(11)])
        table.delete(binary("equal", column(0), constant(2)))
        group = table.groups[0]
        octets = sealed(
            MARK + [2] + [2, 105, 100, 1, 0] + [6, 68, 97, 121, 32, 111, 102, 3, 1] + [9] + [1]
            + [9, 4, 0] + column_octets(group.columns[0]) + column_octets(group.columns[1])
            + [2] + [3, 18, 0] + [3, 20, 3, 200, 1])
        self.assertEqual(write_table(table), octets)
        self.assertTrue(same_tables(self.read(octets), table))

    def test_kinds(self):
        for number, kind in enumerate(KINDS):
            for nullable in (True, False):
                table = Table([Column("x", kind, nullable)], 1000)
                octets = sealed(MARK + [1, 1, 120, number, 1 if nullable else 0, 232, 7, 0, 0])
                self.assertEqual(write_table(table), octets)
                self.assertTrue(same_tables(self.read(octets), table))
        for wrong in ([5, 0], [0, 2], [255, 1], [1, 255]):
            self.refused(sealed(MARK + [1, 1, 120] + wrong + [10, 0, 0]))

    def test_tables_by_chance_are_read_again(self):
        chance = random.Random(92)
        for size in (1, 2, 3, 7, 8, 9, 50, 1000):
            for many in (0, 1, 5, 17, 60):
                table = sample(chance, size, many)
                table.delete(binary("equal", column(1), constant("a")))
                if chance.random() < 0.5:
                    table.flush()
                for group in range(len(table.groups)):
                    for number in range(5):
                        table.encode_again(group, number, chance.choice(FORMS))
                kept = table.fork()
                octets = write_table(table)
                self.assertTrue(same_tables(table, kept))
                self.assertTrue(all(0 <= octet <= 255 for octet in octets))
                self.assertTrue(same_tables(self.read(octets), table))
                self.assertTrue(is_exactly(read_table(octets).present_rows(), table.present_rows()))

    def test_the_octets_are_not_kept(self):
        octets = write_table(sample(random.Random(1), 4, 10))
        table = read_table(octets)
        kept = table.fork()
        octets.clear()
        self.assertTrue(same_tables(table, kept))


class Damaged(Files):
    def octets(self):
        table = sample(random.Random(99), 4, 11)
        table.delete(binary("equal", column(1), constant("word")))
        return write_table(table)

    def test_cut_off(self):
        octets = self.octets()
        for many in range(len(octets)):
            self.refused(octets[:many])
            self.refused(octets[many + 1:])
        for many in range(len(octets) - 4):
            self.refused(sealed(octets[:many]))

    def test_one_octet_changed_put_in_or_left_out(self):
        octets = self.octets()
        chance = random.Random(99)
        for at in range(len(octets)):
            more = chance.randrange(1, 256)
            self.refused(octets[:at] + [(octets[at] + more) & 255] + octets[at + 1:])
            self.refused(octets[:at] + octets[at + 1:])
            self.refused(octets[:at] + [more] + octets[at:])
        self.refused(octets + [0])

    def test_changed_with_its_checksum(self):
        """Most changes are refused; what is read is a table in order that is written as it was."""
        octets = self.octets()[:-4]
        read = 0
        for at in range(len(octets)):
            for octet in (0, 1, 2, 127, 128, 255, octets[at] ^ 1, octets[at] ^ 128):
                changed = sealed(octets[:at] + [octet] + octets[at + 1:])
                try:
                    self.read(changed)
                    read += 1
                except InvalidFile:
                    pass
        self.assertGreater(read, 50)
        self.refused(sealed(octets + [0]))

    def test_what_is_no_octet(self):
        octets = self.octets()
        for wrong in (256 + octets[9], -1):
            self.refused(octets[:9] + [wrong] + octets[10:])
        self.refused([])
        self.refused(sealed([]))
        self.refused(sealed(MARK))

    def test_numbers_that_are_octets_but_for_a_multiple_of_256(self):
        packed = Encoded(1, None, ("packed", 0, 1, 9, 256))
        octets = one_column(INT, column_octets(packed), 1)
        self.read(octets)
        for at in range(len(octets)):
            for more in (256, -256):
                self.refused(octets[:at] + [octets[at] + more] + octets[at + 1:])

    def test_the_mark(self):
        octets = self.octets()[:-4]
        for at in range(4):
            self.refused(sealed(octets[:at] + [octets[at] ^ 32] + octets[at + 1:]))


class Numbers(Files):
    def size_file(self, octets):
        return sealed(MARK + [1, 1, 97, 1, 0] + octets + [0, 0])

    def test_group_sizes(self):
        for size in (1, 127, 128, 1000):
            self.assertEqual(self.read(self.size_file(number_octets(size))).size, size)
        for size in (0, 1001, 2 ** 40, 2 ** 70 - 1):
            self.refused(self.size_file(number_octets(size)))

    def test_a_number_ends_as_it_must(self):
        self.refused(self.size_file([129, 0]))
        self.refused(self.size_file([129, 128, 0]))
        self.refused(self.size_file([129] + [128] * 9 + [0]))
        self.refused(self.size_file([129] + [128] * 9 + [1]))
        self.refused(self.size_file([255] * 50))

    def test_integers_in_the_buffer(self):
        def file(octets):
            return file_of([column_head(INT)], 10, [], [octets])
        for integer in (0, 1, -1, LIMIT, -LIMIT, 63, -64, 64, -65):
            self.assertEqual(self.read(file([3] + integer_octets(integer))).buffer, [[integer]])
        for integer in (LIMIT + 1, -LIMIT - 1, 2 ** 68):
            self.refused(file([3] + integer_octets(integer)))
        self.assertEqual(self.read(file([0])).buffer, [[None]])
        for wrong in ([1], [2], [4, 0], [5], [3, 128, 0], [3], []):
            self.refused(file(wrong))

    def test_texts(self):
        def file(octets):
            return file_of([column_head(TEXT)], 10, [], [[4] + octets])
        signs = "".join(chr(code) for code in range(32, 127) if code != 37)
        self.assertEqual(self.read(file(text_octets(signs))).buffer, [[signs]])
        self.assertEqual(self.read(file([0])).buffer, [[""]])
        for code in (0, 10, 31, 37, 127, 128, 255):
            self.refused(file([1, code]))
        self.assertEqual(self.read(file(text_octets("a" * 10000))).buffer, [["a" * 10000]])
        self.refused(file(text_octets("a" * 10001)))
        self.refused(file(number_octets(HUGE)))


class Heads(Files):
    def file(self, names):
        return file_of([column_head(Column(name, "int", False)) for name in names], 5, [])

    def test_columns(self):
        self.assertEqual(len(self.read(self.file(["a"])).columns), 1)
        self.assertEqual([told.name for told in self.read(self.file(list("abcdefghijkl"))).columns], list("abcdefghijkl"))
        self.refused(self.file(list("abcdefghijklm")))
        self.refused(self.file([]))
        self.refused(sealed(MARK + [0, 5, 0] + number_octets(HUGE)))
        self.refused(sealed(MARK + [0, 5] + number_octets(3) + [1, 0] * 3 + [0]))
        self.refused(sealed(MARK + number_octets(HUGE)))
        self.refused(self.file(["a", "b", "a"]))

    def test_names(self):
        for name in ("a", "A b", "\"", "x" * 40):
            self.assertEqual(self.read(self.file([name])).columns[0].name, name)
        self.refused(self.file([""]))
        self.refused(self.file(["x" * 41]))
        self.assertEqual(len(self.read(self.file(["a", "A"])).columns), 2)

    def test_numbers_of_groups_and_rows(self):
        head = MARK + [1] + column_head(INT) + [5]
        for wrong in ([1, 0], number_octets(HUGE) + [0], [0, 1], [0] + number_octets(HUGE), [0, 2, 0]):
            self.refused(sealed(head + wrong))
        self.read(sealed(head + [0, 1, 0]))


class Groups(Files):
    def constant_group(self, many, value=7):
        return group_octets(many, [column_octets(Encoded(many, None, ("constant", value, many)))])

    def test_rows_of_groups(self):
        head = [column_head(INT)]
        for many in (1, 7, 8, 9, 10):
            self.assertEqual(self.read(file_of(head, 10, [self.constant_group(many)])).present_rows(), [[7]] * many)
        self.refused(file_of(head, 10, [self.constant_group(11)]))
        self.refused(file_of(head, 10, [self.constant_group(0)]))
        self.refused(file_of(head, 10, [group_octets(0, [column_octets(Encoded(0, None, ("plain", ())))])]))
        self.refused(file_of(head, 10, [number_octets(HUGE)]))

    def test_all_rows(self):
        head = [column_head(INT)]
        groups = [self.constant_group(1000)] * 20
        self.assertEqual(self.read(file_of(head, 1000, groups)).stored(), 20000)
        self.refused(file_of(head, 1000, groups, [[0]]))
        self.refused(file_of(head, 1000, groups + [self.constant_group(1)]))
        # Deleted rows count.
        dead = group_octets(1000, [column_octets(Encoded(1000, None, ("constant", 7, 1000)))], 2 ** 1000 - 1)
        self.assertEqual(self.read(file_of(head, 1000, [dead] * 20)).live, 0)
        self.refused(file_of(head, 1000, [dead] * 20, [[0]]))

    def test_marks_of_deleted_rows(self):
        encoded = column_octets(Encoded(3, None, ("plain", (1, 2, 3))))
        table = self.read(file_of([column_head(INT)], 5, [group_octets(3, [encoded], 0b101)]))
        self.assertEqual((table.present_rows(), table.groups[0].dead), ([[2]], [True, False, True]))
        self.refused(file_of([column_head(INT)], 5, [group_octets(3, [encoded], 0b1000)]))
        # Deleted rows must fit, too.
        wrong = column_octets(Encoded(3, None, ("plain", (1, "a", 3))))
        self.refused(file_of([column_head(INT)], 5, [group_octets(3, [wrong], 0b010)]))

    def test_the_buffer(self):
        head = [column_head(INT)]
        self.assertEqual(self.read(file_of(head, 3, [], [[3, 2], [0]])).buffer, [[1], [None]])
        self.refused(file_of(head, 3, [], [[3, 2], [0], [0]]))
        self.refused(file_of(head, 1, [], [[0]]))
        strict = [column_head(Column("n", "int", False))]
        self.refused(file_of(strict, 3, [], [[0]]))
        self.refused(file_of(strict, 3, [], [[2]]))


class Bodies(Files):
    def good(self, told, encoded):
        octets = one_column(told, column_octets(encoded), encoded.length)
        self.assertTrue(same_tables(self.read(octets), table_with(told, encoded)))
        self.assertIs(in_order(table_with(told, encoded)), True)

    def bad(self, told, encoded, many=None):
        many = encoded.length if many is None else many
        self.refused(one_column(told, column_octets(encoded), many), encoded.body)
        self.assertIs(in_order(table_with(told, encoded, min(many, 5000))), False, encoded.body)

    def test_lengths_and_masks(self):
        plain = ("plain", (1, 2))
        self.good(INT, Encoded(2, None, plain))
        self.good(INT, Encoded(2, [False, False], plain))
        self.good(INT, Encoded(3, [False, True, False], plain))
        self.bad(INT, Encoded(2, None, plain), 3)
        self.bad(INT, Encoded(3, None, plain), 2)
        self.bad(INT, Encoded(3, None, plain))
        self.bad(INT, Encoded(2, [True, False], plain))
        self.bad(INT, Encoded(3, [False, False, False], plain))
        self.bad(Column("n", "int", False), Encoded(3, [False, True, False], plain))
        self.refused(one_column(INT, [0, 1, 3, 0b1010] + [2, 3, 2, 3, 4], 3))
        self.refused(one_column(INT, [0, 2, 2, 2, 3, 2, 3, 4], 2))
        self.refused(one_column(INT, [6, 0, 2, 2, 3, 2, 3, 4], 2))
        self.refused(one_column(INT, [0, 0] + number_octets(HUGE) + [2, 3, 2, 3, 4], 2))
        self.refused(one_column(INT, [0, 1] + number_octets(HUGE) + [2, 3, 2, 3, 4], 2))

    def test_plain(self):
        self.bad(INT, Encoded(2, None, ("plain", (1,))))
        self.bad(INT, Encoded(2, None, ("plain", (1, 2, 3))))
        self.bad(INT, Encoded(2, None, ("plain", (1, None))))
        self.bad(INT, Encoded(2, None, ("plain", (1, True))))
        self.bad(INT, Encoded(1, None, ("plain", (LIMIT + 1,))))
        self.good(INT, Encoded(2, None, ("plain", (LIMIT, -LIMIT))))
        self.good(TEXT, Encoded(1, None, ("plain", ("a" * 10000,))))
        self.bad(TEXT, Encoded(1, None, ("plain", ("a" * 10001,))))
        self.good(INT, Encoded(1, [True], ("plain", ())))
        self.refused(one_column(INT, [0, 0, 2] + number_octets(HUGE), 2))

    def test_constant(self):
        self.good(TEXT, Encoded(3, None, ("constant", "a", 3)))
        self.good(TEXT, Encoded(3, [True, False, False], ("constant", "a", 2)))
        for count in (0, 2, 4, HUGE):
            self.bad(TEXT, Encoded(3, None, ("constant", "a", count)))
        self.bad(TEXT, Encoded(1, [True], ("constant", "a", 0)))
        self.bad(TEXT, Encoded(3, None, ("constant", None, 3)))
        self.bad(TEXT, Encoded(3, None, ("constant", 1, 3)))

    def test_runs(self):
        self.good(TEXT, Encoded(3, None, ("runs", (("a", 1), ("b", 2)))))
        self.good(TEXT, Encoded(1, [True], ("runs", ())))
        # Neighbors may be the same.
        self.good(TEXT, Encoded(3, None, ("runs", (("a", 1), ("a", 2)))))
        for pairs in ((("a", 3), ("b", 0)), (("a", 0), ("b", 3)), (("a", 1), ("b", 1)), (("a", 2), ("b", 2)), (),
                      (("a", 1), (None, 2)), (("a", 1), (5, 2)), (("a", HUGE),), (("a", 3), ("b", HUGE))):
            self.bad(TEXT, Encoded(3, None, ("runs", pairs)))
        self.refused(one_column(TEXT, [2, 0, 3] + number_octets(HUGE) + [4, 0, 3], 3))

    def test_dictionary(self):
        self.good(TEXT, Encoded(3, None, ("dictionary", ("a", "b"), 3, 1, 0b010)))
        self.good(TEXT, Encoded(3, None, ("dictionary", ("a",), 3, 0, 0)))
        self.good(TEXT, Encoded(1, [True], ("dictionary", (), 0, 0, 0)))
        # A word twice, a larger width, and a word without an index, of any kind.
        self.good(TEXT, Encoded(3, None, ("dictionary", ("a", "a", "b"), 3, 2, 0b100100)))
        self.good(TEXT, Encoded(3, None, ("dictionary", ("a", "b"), 3, 64, pack([1, 0, 1], 64))))
        for word in (5, True, None, 4 * LIMIT, -4 * LIMIT, "x" * 10000):
            self.good(TEXT, Encoded(3, None, ("dictionary", ("a", word), 3, 1, 0)))
            if not isinstance(word, str):
                self.bad(TEXT, Encoded(3, None, ("dictionary", ("a", word), 3, 1, 0b010)))
        for word in (4 * LIMIT + 1, -4 * LIMIT - 1, "x" * 10001):
            self.bad(TEXT, Encoded(3, None, ("dictionary", ("a", word), 3, 1, 0)))
        self.bad(TEXT, Encoded(3, None, ("dictionary", ("a", "b", "c", "d"), 3, 2, 0)))
        self.bad(TEXT, Encoded(1, [True], ("dictionary", ("a",), 0, 0, 0)))
        self.bad(TEXT, Encoded(3, None, ("dictionary", (), 3, 0, 0)))
        self.bad(TEXT, Encoded(3, None, ("dictionary", ("a", "b", "c"), 3, 2, 0b110000)))
        self.bad(TEXT, Encoded(3, None, ("dictionary", ("a",), 3, 1, 0b001)))
        for count in (0, 2, 4):
            self.bad(TEXT, Encoded(3, None, ("dictionary", ("a", "b"), count, 1, 0)))
        self.bad(TEXT, Encoded(3, None, ("dictionary", ("a",), HUGE, 0, 0)))
        self.bad(TEXT, Encoded(3, None, ("dictionary", ("a", "b"), 3, 65, 0)))
        self.refused(one_column(TEXT, [3, 0, 3, 1, 4, 0] + number_octets(HUGE) + [64, 0], 3))
        self.refused(one_column(TEXT, [3, 0, 3] + number_octets(HUGE) + [4, 0], 3))
        self.refused(one_column(TEXT, [3, 0, 3, 2, 4, 0, 4, 0, 3, 1, 0b1010], 3))

    def test_packed(self):
        self.good(INT, Encoded(3, None, ("packed", -5, 3, 2, 0b110001)))
        self.good(INT, Encoded(1, [True], ("packed", 0, 0, 0, 0)))
        self.good(INT, Encoded(1, [True], ("packed", 4 * LIMIT, 0, 64, 0)))
        self.good(INT, Encoded(2, None, ("packed", -LIMIT, 2, 64, pack([0, 2 * LIMIT], 64))))
        # The least need not be among the values.
        self.good(INT, Encoded(1, None, ("packed", -4 * LIMIT, 1, 60, 3 * LIMIT)))
        self.bad(INT, Encoded(1, None, ("packed", -4 * LIMIT - 1, 1, 60, 4 * LIMIT)))
        self.bad(INT, Encoded(1, None, ("packed", -LIMIT, 1, 64, 2 * LIMIT + 1)))
        self.bad(INT, Encoded(1, None, ("packed", -LIMIT - 1, 1, 0, 0)))
        self.bad(INT, Encoded(1, [True], ("packed", 4 * LIMIT + 1, 0, 0, 0)))
        self.bad(INT, Encoded(1, [True], ("packed", 0, 0, 65, 0)))
        self.bad(INT, Encoded(1, None, ("packed", 0, 1, 64, 2 ** 64 - 1)))
        for count in (0, 2, 4, HUGE):
            self.bad(INT, Encoded(3, None, ("packed", 0, count, 0, 0)))
        self.bad(TEXT, Encoded(1, None, ("packed", 0, 1, 0, 0)))
        self.bad(Column("n", "bool", True), Encoded(1, None, ("packed", 0, 1, 1, 1)))
        self.bad(Column("n", "date", True), Encoded(1, None, ("packed", 2932897, 1, 0, 0)))
        self.good(Column("n", "date", True), Encoded(1, None, ("packed", 2932896, 1, 0, 0)))
        self.refused(one_column(INT, [4, 0, 3, 0] + number_octets(HUGE) + [255, 1, 2, 3], 3))
        self.refused(one_column(INT, [4, 0, 3, 0, 3, 1, 0b1000], 3))

    def test_deltas(self):
        self.good(INT, Encoded(3, None, ("deltas", 5, -1, 3, 2, 0b0111)))
        self.good(INT, Encoded(1, None, ("deltas", 5, 0, 1, 0, 0)))
        self.good(INT, Encoded(1, None, ("deltas", 5, 4 * LIMIT, 1, 64, 0)))
        self.good(INT, Encoded(2, None, ("deltas", LIMIT, -2 * LIMIT, 2, 0, 0)))
        self.bad(INT, Encoded(1, None, ("deltas", 5, 4 * LIMIT + 1, 1, 0, 0)))
        self.bad(INT, Encoded(2, None, ("deltas", LIMIT, 1, 2, 0, 0)))
        self.bad(INT, Encoded(3, None, ("deltas", LIMIT, 1, 3, 0, 0)))
        self.bad(INT, Encoded(1, None, ("deltas", LIMIT + 1, 0, 1, 0, 0)))
        self.bad(INT, Encoded(1, [True], ("deltas", 0, 0, 0, 0, 0)))
        for count in (0, 2, 4, HUGE):
            self.bad(INT, Encoded(3, None, ("deltas", 0, 0, count, 0, 0)))
        self.bad(INT, Encoded(2, None, ("deltas", 0, 0, 2, 65, 0)))
        self.bad(TEXT, Encoded(1, None, ("deltas", 0, 0, 1, 0, 0)))
        self.refused(one_column(INT, [5, 0, 3, 0, 0] + number_octets(HUGE) + [64, 1, 2, 3], 3))
        self.refused(one_column(INT, [5, 0, 3, 0, 0, 3, 1, 0b100], 3))
        self.refused(one_column(INT, [5, 1, 1, 1, 0, 0, 0, 64], 1))

    def test_values_that_do_not_fit(self):
        told = {"bool": (True, 1), "int": (-5, True), "text": ("a", 0), "date": (0, "2020-01-01"), "decimal": (1, False)}
        for kind, (fits, other) in told.items():
            for nullable in (True, False):
                self.good(Column("n", kind, nullable), Encoded(1, None, ("plain", (fits,))))
                self.bad(Column("n", kind, nullable), Encoded(1, None, ("plain", (other,))))
            self.good(Column("n", kind, True), Encoded(1, [True], ("plain", ())))
            self.bad(Column("n", kind, False), Encoded(1, [True], ("plain", ())))

    def test_octets_of_values(self):
        self.assertEqual(one_column(INT, [0, 0, 1, 1] + value_octets(5), 1), write_table(
            table_with(INT, Encoded(1, None, ("plain", (5,))))))


class InOrder(unittest.TestCase):
    def test_tables_that_are(self):
        chance = random.Random(3)
        for size in (1, 2, 1000):
            table = sample(chance, size, 20)
            self.assertIs(in_order(table), True)
            table.delete(constant(True))
            self.assertIs(in_order(table), True)
        self.assertIs(in_order(Table([INT], 1)), True)

    def test_columns_and_sizes(self):
        self.assertIs(in_order(Table([], 5)), False)
        self.assertIs(in_order(Table([INT, INT], 5)), False)
        self.assertIs(in_order(Table([Column("", "int", True)], 5)), False)
        self.assertIs(in_order(Table([Column("n" * 40, "int", True)], 5)), True)
        self.assertIs(in_order(Table([Column("n" * 41, "int", True)], 5)), False)
        self.assertIs(in_order(Table([Column(f"c{k}", "int", True) for k in range(12)], 5)), True)
        self.assertIs(in_order(Table([Column(f"c{k}", "int", True) for k in range(13)], 5)), False)
        for size, wanted in ((0, False), (1, True), (1000, True), (1001, False), (-1, False)):
            self.assertIs(in_order(Table([INT], size)), wanted)

    def test_bits_beyond_the_packed_numbers(self):
        for body, wanted in ((("packed", 0, 3, 1, 0b111), True), (("packed", 0, 3, 1, 0b1000), False),
                             (("packed", 0, 3, 0, 1), False), (("packed", 0, 3, 1, -1), False),
                             (("deltas", 0, 0, 3, 1, 0b11), True), (("deltas", 0, 0, 3, 1, 0b100), False),
                             (("dictionary", (1, 2), 3, 1, 0b111), True), (("dictionary", (1, 2), 3, 1, 0b1000), False)):
            self.assertIs(in_order(table_with(INT, Encoded(3, None, body))), wanted, body)

    def test_groups_and_buffers(self):
        table = Table([INT], 3)
        table.buffer = [[1], [None]]
        self.assertIs(in_order(table), True)
        for wrong in ([[1], [2], [3]], [["a"]], [[1, 2]], [[]], [[LIMIT + 1]]):
            table.buffer = wrong
            self.assertIs(in_order(table), False)
        table.buffer = []
        one = Encoded(1, None, ("plain", (1,)))
        for group, wanted in ((Group([one], 1, [False]), True), (Group([one], 1, [True]), True),
                              (Group([one], 1, []), False), (Group([one], 1, [False, False]), False),
                              (Group([], 1, [False]), False), (Group([one, one], 1, [False]), False),
                              (Group([one], 2, [False, False]), False), (Group([one], HUGE, [False]), False),
                              (Group([Encoded(0, None, ("plain", ()))], 0, []), False),
                              (Group([Encoded(4, None, ("constant", 1, 4))], 4, [False] * 4), False)):
            table.groups = [group]
            self.assertIs(in_order(table), wanted)


if __name__ == "__main__":
    unittest.main()
