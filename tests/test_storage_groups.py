"""Point 83: groups of rows."""

import random
import unittest

from stylobate.storage.columns import Encoded, encode_as, encode_column
from stylobate.storage.forms import FORMS
from stylobate.storage.groups import Group, make_group
from stylobate.values.expressions import holds
from tests.samples import VALUES, binary, column, constant, is_exactly, unary

ROWS = [[1, "a"], [2, None], [None, "c"], [2, "a"], [5, "e"]]
TWO = binary("equal", column(0), constant(2))


class Groups(unittest.TestCase):
    def test_made_of_rows(self):
        group = make_group(2, ROWS)
        self.assertEqual(group.every_row(), ROWS)
        self.assertEqual(group.live_rows(), ROWS)
        self.assertEqual((group.many, group.live, group.dead), (5, 5, [False] * 5))
        self.assertEqual(group.columns, [encode_column([row[0] for row in ROWS]), encode_column([row[1] for row in ROWS])])
        self.assertEqual((make_group(0, [[], []]).every_row(), make_group(1, []).every_row()), ([[], []], []))
        values = make_group(1, [[value] for value in VALUES])
        self.assertTrue(is_exactly(values.every_row(), [[value] for value in VALUES]))

    def test_made_of_columns(self):
        columns = [encode_as("plain", [1, None, 3]), encode_as("runs", ["a", "a", "b"])]
        dead = [False, True, False]
        group = Group(columns, 3, dead)
        self.assertEqual(group.every_row(), [[1, "a"], [None, "a"], [3, "b"]])
        self.assertEqual(group.live_rows(), [[1, "a"], [3, "b"]])
        self.assertEqual(group.live, 2)
        dead[0] = True
        columns.pop()
        self.assertEqual((group.live, len(group.columns)), (2, 2))

    def test_mark(self):
        group = make_group(2, ROWS)
        kept = group.fork().columns
        self.assertEqual(group.mark(TWO), 2)
        self.assertEqual(group.dead, [False, True, False, True, False])
        self.assertEqual(group.live_rows(), [[1, "a"], [None, "c"], [5, "e"]])
        self.assertEqual(group.every_row(), ROWS)
        self.assertEqual(group.columns, kept)
        self.assertEqual(group.mark(TWO), 0)
        # Neither false nor unknown is enough.
        self.assertEqual(group.mark(constant(None)), 0)
        self.assertEqual(group.mark(constant(1)), 0)
        self.assertEqual(group.mark(unary("is null", column(0))), 1)
        self.assertEqual(group.mark(constant(True)), 2)
        self.assertEqual((group.live, group.live_rows(), group.many), (0, [], 5))

    def test_zones_count_deleted_rows(self):
        group = make_group(2, ROWS)

        def told():
            return [(zone.many, zone.nulls, zone.least, zone.greatest) for zone in group.zones()]
        wanted = [(5, 1, 1, 5), (5, 1, "a", "e")]
        self.assertEqual(told(), wanted)
        group.mark(binary("equal", column(0), constant(5)))
        self.assertEqual(told(), wanted)
        group.encode_again("plain", 0)
        self.assertEqual(told(), wanted)
        group.zones().clear()
        self.assertEqual(told(), wanted)

    def test_encode_again(self):
        group = make_group(2, ROWS)
        group.mark(TWO)
        for form in FORMS:
            for number in (0, 1):
                kept = group.fork().columns
                possible = encode_as(form, [row[number] for row in ROWS])
                self.assertIs(group.encode_again(form, number), possible is not None)
                if possible is None:
                    self.assertEqual(group.columns, kept)
                else:
                    self.assertEqual(group.columns[number], possible)
                    self.assertEqual(group.columns[1 - number], kept[1 - number])
                self.assertEqual(group.every_row(), ROWS)
                self.assertEqual(group.dead, [False, True, False, True, False])

    def test_fork_shares_nothing(self):
        group = make_group(2, ROWS)
        group.mark(TWO)
        for fork in (group.fork(), group.fork().fork()):
            self.assertEqual((fork.every_row(), fork.dead, fork.many), (ROWS, group.dead, 5))
            self.assertEqual(fork.columns, group.columns)
            fork.mark(constant(True))
            fork.encode_again("plain", 0)
            self.assertEqual((fork.live, group.live), (0, 3))
            self.assertNotEqual(fork.columns[0], group.columns[0])
        fork = group.fork()
        group.mark(constant(True))
        self.assertEqual((fork.live, group.live), (3, 0))

    def test_rows_are_new(self):
        group = make_group(2, ROWS)
        for row in group.every_row() + group.live_rows():
            row.append(0)
        self.assertEqual(group.every_row(), ROWS)

    def test_by_chance(self):
        chance = random.Random(83)
        for _ in range(100):
            rows = [[chance.choice(VALUES), chance.choice([None, 0, 1])] for _ in range(chance.randrange(1, 20))]
            group = make_group(2, rows)
            live = list(rows)
            for _ in range(3):
                condition = binary("equal", column(chance.randrange(2)), constant(chance.choice(VALUES)))
                gone = [row for row in live if holds(condition, row)]
                live = [row for row in live if not holds(condition, row)]
                self.assertEqual(group.mark(condition), len(gone))
                self.assertTrue(is_exactly(group.live_rows(), live))
                self.assertEqual(group.live, len(live))
            self.assertTrue(is_exactly(group.every_row(), rows))

    def test_columns_as_they_were_read(self):
        odd = Encoded(2, [False, False], ("dictionary", ("a", "a", "x"), 2, 5, 1))
        group = Group([odd], 2, [False, True])
        self.assertEqual(group.every_row(), [["a"], ["a"]])
        self.assertEqual(group.columns, [odd])


if __name__ == "__main__":
    unittest.main()
