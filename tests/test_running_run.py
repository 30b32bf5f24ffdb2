"""Points 100, 105, 106, 109 to 117: running physical plans over tables of groups, and the four numbers."""

import itertools
import random
import unittest

from stylobate.meaning.plans import rows_of
from stylobate.optimizer.choices import physical
from stylobate.optimizer.statistics import statistics_of
from stylobate.running.batches import flat
from stylobate.running.physical import meaning_of
from stylobate.running.run import Counters, answer, run
from stylobate.storage.tables import Column, Table
from tests.random_plans import WIDTHS, Plans, bag, stored
from tests.samples import binary, column, constant, is_exactly, unary

A, B = column(0), column(1)
TRUE = constant(True)
COLUMNS = [Column("a", "int", False), Column("b", "text", True)]
ALL = ("scan", 0, TRUE, (0, 1))


def table_of(rows, size):
    table = Table(COLUMNS, size)
    table.insert(rows)
    return table


def letters(many):
    return [[number, "abcdefghij"[number - 1]] for number in range(1, many + 1)]


def at_least(number):
    return binary("at most", constant(number), A)


def numbers(counters):
    return (counters.read, counters.skipped, counters.batches, counters.written)


def always(values):
    return 3


class Numbers(unittest.TestCase):
    def test_of_counters(self):
        counters = Counters()
        self.assertEqual(numbers(counters), (0, 0, 0, 0))
        other = Counters()
        self.assertEqual(counters, other)
        for at, name in enumerate(("read", "skipped", "batches", "written")):
            setattr(other, name, at + 2)
        self.assertIsNone(counters.gather(other))
        self.assertEqual(numbers(counters), (2, 3, 4, 5))
        self.assertEqual(counters, other)
        counters.gather(counters)
        self.assertEqual(numbers(counters), (4, 6, 8, 10))
        for name in ("read", "skipped", "batches", "written"):
            other = Counters()
            setattr(other, name, 1)
            self.assertNotEqual(Counters(), other)
        self.assertNotEqual(Counters(), (0, 0, 0, 0))
        self.assertNotEqual(Counters(), None)


class Scans(unittest.TestCase):
    def check(self, plan, tables, wanted, told, batch=100, memory=100):
        batches, counters = run(plan, tables, batch=batch, memory=memory)
        self.assertTrue(is_exactly(flat(batches), wanted), flat(batches))
        self.assertEqual(numbers(counters), told)
        rows, again = answer(plan, tables, batch=batch, memory=memory)
        self.assertTrue(is_exactly(rows, wanted))
        self.assertEqual(again, counters)
        return batches

    def test_groups_are_read_or_skipped(self):
        rows = letters(5)
        tables = [table_of(rows, 2)]
        self.check(ALL, tables, rows, (2, 0, 3, 0))
        self.check(ALL, tables, rows, (2, 0, 5, 0), batch=1)
        self.check(("scan", 0, at_least(3), (0, 1)), tables, rows[2:], (1, 1, 2, 0))
        self.check(("scan", 0, at_least(3), (0, 1)), tables, rows[2:], (1, 1, 3, 0), batch=1)
        # Here the second group is read, but only one of its rows fulfills the condition.
        self.check(("scan", 0, at_least(4), (0, 1)), tables, rows[3:], (1, 1, 2, 0), batch=1)
        self.check(("scan", 0, at_least(9), (0, 1)), tables, [], (0, 2, 0, 0))
        self.check(("scan", 0, constant(False), (0, 1)), tables, [], (0, 2, 0, 0))
        self.check(("scan", 0, constant(None), (0, 1)), tables, [], (0, 2, 0, 0))
        odd = binary("equal", binary("rest", A, constant(2)), constant(1))
        self.check(("scan", 0, odd, (0,)), tables, [[1], [3], [5]], (2, 0, 3, 0))

    def test_columns(self):
        tables = [table_of(letters(3), 2)]
        self.check(("scan", 0, at_least(2), (1,)), tables, [["b"], ["c"]], (1, 0, 2, 0))
        self.check(("scan", 0, TRUE, (1, 0, 1)), tables, [["a", 1, "a"], ["b", 2, "b"], ["c", 3, "c"]], (1, 0, 2, 0))
        self.check(("scan", 0, TRUE, ()), tables, [[], [], []], (1, 0, 2, 0))
        self.check(("scan", 0, at_least(3), ()), tables, [[]], (0, 1, 1, 0))

    def test_no_batch_has_rows_of_two_groups(self):
        tables = [table_of(letters(8), 3)]
        for batch, wanted in ((2, [2, 1, 2, 1, 2]), (1, [1] * 8), (3, [3, 3, 2]), (1000, [3, 3, 2])):
            batches = self.check(ALL, tables, letters(8), (2, 0, len(wanted), 0), batch=batch)
            self.assertEqual([len(one.chosen()) for one in batches], wanted)

    def test_deleted_rows(self):
        tables = [table_of(letters(7), 3)]
        tables[0].delete(binary("at most", A, constant(3)))
        tables[0].delete(binary("equal", A, constant(5)))
        left = [[4, "d"], [6, "f"], [7, "g"]]
        # The first group has no live rows, but its zones tell of the deleted ones.
        self.check(ALL, tables, left, (2, 0, 2, 0))
        self.check(("scan", 0, at_least(2), (0, 1)), tables, left, (2, 0, 3, 0), batch=1)
        self.check(("scan", 0, at_least(4), (0, 1)), tables, left, (1, 1, 2, 0))
        self.check(("scan", 0, binary("equal", A, constant(5)), (0,)), tables, [], (1, 1, 0, 0))

    def test_the_buffer_alone_and_no_table(self):
        tables = [table_of(letters(2), 3), table_of([], 1)]
        self.check(ALL, tables, letters(2), (0, 0, 1, 0))
        self.check(("scan", 0, at_least(2), (1,)), tables, [["b"]], (0, 0, 1, 0), batch=1)
        self.check(("scan", 0, at_least(5), (1,)), tables, [], (0, 0, 0, 0))
        self.check(("scan", 1, TRUE, (0,)), tables, [], (0, 0, 0, 0))
        self.check(("scan", 2, TRUE, (0,)), tables, [], (0, 0, 0, 0))

    def test_layouts_change_what_is_counted_alone(self):
        table = table_of(letters(9), 2)
        for change in ("none", "flush", "delete", "merge", "cluster", "encode"):
            if change == "flush":
                table.flush()
            elif change == "merge":
                table.merge()
            elif change == "cluster":
                table.cluster([(0, True)])
            elif change == "encode":
                table.encode_again(0, 0, "runs")
            rows, _ = answer(("scan", 0, at_least(4), (0, 1)), [table], batch=2, memory=1)
            self.assertEqual(bag(rows), bag(letters(9)[3:]), change)


class Operators(unittest.TestCase):
    def setUp(self):
        self.tables = [table_of(letters(5), 2), table_of([[2, "x"], [2, "y"], [9, "z"]], 2)]

    def check(self, plan, wanted, told, batch=2, memory=100, hashed=None):
        rows, counters = answer(plan, self.tables, batch=batch, memory=memory, hashed=hashed)
        self.assertTrue(is_exactly(rows, wanted), rows)
        self.assertEqual(numbers(counters), told)

    def test_rows_filters_projects_and_unions(self):
        rows = ("rows", 1, ((1,), [2], (3,)))
        self.check(rows, [[1], [2], [3]], (0, 0, 2, 0))
        self.check(("rows", 1, ()), [], (0, 0, 0, 0))
        # Batches of a filter that have nothing left are dropped, and not counted.
        self.check(("filter", at_least(3), rows), [[3]], (0, 0, 2 + 1, 0))
        self.check(("filter", at_least(2), rows), [[2], [3]], (0, 0, 2 + 2, 0))
        self.check(("filter", constant(None), rows), [], (0, 0, 2, 0))
        self.check(("project", (unary("negate", A),), rows), [[-1], [-2], [-3]], (0, 0, 2 + 2, 0))
        # A projection makes of each batch one, also if it is not full.
        self.check(("project", (A,), ("filter", at_least(2), rows)), [[2], [3]], (0, 0, 2 + 2 + 2, 0))
        self.check(("union", rows, ("filter", at_least(3), rows)), [[1], [2], [3], [3]], (0, 0, 2 + 2 + 1, 0))
        self.check(("union", ALL, ("scan", 1, TRUE, (0, 1))), letters(5) + [[2, "x"], [2, "y"], [9, "z"]],
                   (3, 0, 3 + 2, 0))

    def test_other_operators_fill_their_batches(self):
        uneven = ("filter", unary("not", binary("equal", A, constant(2))), ALL)
        # The scan makes three batches, the filter as many; the others put four rows into two.
        self.check(("distinct", "hash", uneven), [row for row in letters(5) if row[0] != 2], (2, 0, 3 + 3 + 2, 0))
        self.check(("distinct", "sort", uneven), [row for row in letters(5) if row[0] != 2], (2, 0, 3 + 3 + 2, 4),
                   memory=3)
        self.check(("top", ((A, True),), 1, 2, uneven), [[4, "d"], [3, "c"]], (2, 0, 3 + 3 + 1, 0), memory=3)
        self.check(("top", ((A, True),), 1, 2, uneven), [[4, "d"], [3, "c"]], (2, 0, 3 + 3 + 1, 4), memory=2)
        self.check(("top", ((A, True),), 3, None, uneven), [[1, "a"]], (2, 0, 3 + 3 + 1, 4), memory=2)
        self.check(("top", ((A, True),), 9, 1, uneven), [], (2, 0, 3 + 3, 0))
        functions = (("number", None, None, None), ("sum", A, (1, 0), None))
        self.check(("window", (binary("less", A, constant(4)),), ((A, True),), functions, uneven),
                   [[5, "e", 1, 5], [4, "d", 2, 9], [3, "c", 1, 3], [1, "a", 2, 4]], (2, 0, 3 + 3 + 2, 4), memory=3)
        self.check(("group", "hash", (), (("rows", None),), uneven), [[4]], (2, 0, 3 + 3 + 1, 0), memory=1)
        self.check(("group", "sort", (binary("less", A, constant(4)),), (("sum", A),), uneven),
                   [[False, 9], [True, 4]], (2, 0, 3 + 3 + 1, 4), memory=3)
        self.check(("group", "hash", (binary("less", A, constant(4)),), (("sum", A),), uneven),
                   [[True, 4], [False, 9]], (2, 0, 3 + 3 + 1, 2), memory=1)

    def test_joins(self):
        right = ("scan", 1, TRUE, (0, 1))
        pairs = [[2, "b", 2, "x"], [2, "b", 2, "y"]]
        for way, memory, written in (("loop", 1, 0), ("hash right", 3, 0), ("hash left", 5, 0), ("merge", 5, 0),
                                     ("merge", 4, 5), ("merge", 2, 8)):
            plan = ("join", way, "inner", 2, (A,), (A,), TRUE, ALL, right)
            self.check(plan, pairs, (3, 0, 3 + 2 + 1, written), memory=memory)
        plan = ("join", "hash right", "inner", 2, (A,), (A,), TRUE, ALL, right)
        self.check(plan, pairs, (3, 0, 3 + 2 + 1, 24), memory=2, hashed=always)
        self.check(plan, pairs, (3, 0, 3 + 2 + 1, 0), memory=3, hashed=always)
        plan = ("join", "merge", "never", 2, (A,), (A,), TRUE, ALL, right)
        self.check(plan, [[1, "a"], [3, "c"], [4, "d"], [5, "e"]], (3, 0, 3 + 2 + 2, 0), memory=1)

    def test_the_order_of_window_rows(self):
        self.tables = [table_of([[2, "b"], [1, "b"], [3, None], [1, "a"], [2, "b"]], 2)]
        plan = ("window", (B,), (), (("number", None, None, None),), ALL)
        # By the parts, then (without an order) by the order of rows.
        wanted = [[3, None, 1], [1, "a", 1], [1, "b", 1], [2, "b", 2], [2, "b", 3]]
        for memory in (1, 2, 5):
            self.check(plan, wanted, (2, 0, 3 + 3, 5 if memory < 5 else 0), memory=memory)


class Everything(unittest.TestCase):
    def test_the_bag_is_the_meaning(self):
        chance = random.Random(117)
        for number in range(250):
            plans = Plans(chance)
            plan, _ = plans.plan(chance.randrange(1, 5))
            rows = plans.tables()
            wanted = bag(rows_of(plan, rows))
            choices = [chance.randrange(6) for _ in range(chance.randrange(5))]
            told = physical(plan, statistics_of(WIDTHS, rows), choices)
            self.assertEqual(bag(meaning_of(told, rows)), wanted, told)
            tables = stored(rows, chance.randrange(1, 5))
            if number % 3 == 0:
                for table in tables:
                    table.delete(plans.condition(len(table.columns)))
                wanted = bag(rows_of(plan, [table.present_rows() for table in tables]))
            for batch, memory in itertools.product((1, 2, 50), (1, 2, 50)):
                hashed = chance.choice([None, always, len])
                batches, counters = run(told, tables, batch=batch, memory=memory, hashed=hashed)
                self.assertEqual(bag(flat(batches)), wanted, (told, rows, batch, memory))
                self.assertTrue(all(0 < len(one.selection) <= batch for one in batches))
                if memory == 50:
                    self.assertEqual(counters.written, 0)

    def test_batches_of_other_operators_are_full(self):
        chance = random.Random(106)
        for _ in range(120):
            plans = Plans(chance)
            plan, _ = plans.plan(4)
            rows = plans.tables()
            told = physical(plan, statistics_of(WIDTHS, rows))
            if told[0] in ("scan", "filter", "project", "union"):
                continue
            for batch in (1, 2, 3):
                sizes = [len(one.chosen()) for one in run(told, stored(rows, 3), batch=batch, memory=5)[0]]
                self.assertTrue(all(size == batch for size in sizes[:-1]), (told, sizes))

    def test_top_is_in_order(self):
        tables = [table_of([[3, "a"], [1, None], [3, "b"], [2, "z"]], 2)]
        for memory, skip, count in itertools.product((1, 2, 3, 9), (0, 1, 4), (None, 0, 1, 2, 9)):
            plan = ("top", ((A, True),), skip, count, ALL)
            found, _ = answer(plan, tables, batch=1, memory=memory)
            self.assertEqual(found, meaning_of(plan, [table.present_rows() for table in tables]))

    def test_nothing_that_is_passed_changes(self):
        rows = [[1, "a"], [2, "b"], [1, "a"]]
        tables = [table_of(rows, 2)]
        plan = ("top", ((A, False),), 0, None, ("union", ALL, ("rows", 2, tuple(rows))))
        found, _ = answer(plan, tables, batch=2, memory=1)
        for row in found:
            row.append("more")
        self.assertEqual(rows, [[1, "a"], [2, "b"], [1, "a"]])
        self.assertEqual(tables[0].present_rows(), rows)
