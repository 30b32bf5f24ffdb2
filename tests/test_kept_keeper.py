"""Points 141 to 144: answers that are kept, and the changes that they tell."""

import random
import unittest

from stylobate.kept.changes import Change, changed_rows
from stylobate.kept.keeper import Keeper
from stylobate.meaning.operators import operators_in
from stylobate.meaning.plans import rows_of
from tests.random_plans import WIDTHS, Plans, bag
from tests.samples import binary, column, constant, is_exactly

A, B, C = column(0), column(1), column(2)
T, U = ("table", 0), ("table", 1)
ROWS = [[[1, "a"], [2, "b"], [2, "b"], [None, "c"]], [[1, "x"], [2, "y"]]]


def counted(rows):
    return {row: bag(rows).count(row) for row in bag(rows)}


class Told(unittest.TestCase):
    """What each operator tells: a change as two bags."""

    def check(self, plan, changes, gone, come):
        keeper = Keeper(plan, ROWS)
        before = keeper.held()
        tables = [list(rows) for rows in ROWS]
        change = keeper.take(changes)
        for number in changes:
            tables[number] = changed_rows(tables[number], changes[number])
        self.assertEqual((bag(change.gone), bag(change.come)), (bag(gone), bag(come)), plan)
        self.assertEqual(bag(keeper.held()), bag(rows_of(plan, tables)))
        self.assertEqual(bag(changed_rows(before, change)), bag(keeper.held()))

    def test_tables_filters_and_rows(self):
        change = Change([[1, "a"], [2, "b"]], [[1, "a"], [5, "e"]])
        # A table and a filter tell also of rows that go and come.
        self.check(T, {0: change}, change.gone, change.come)
        self.check(T, {1: change}, [], [])
        self.check(T, {}, [], [])
        small = binary("less", A, constant(2))
        self.check(("filter", small, T), {0: change}, [[1, "a"]], [[1, "a"]])
        self.check(("rows", 1, ((1,), [2])), {0: change}, [], [])

    def test_what_is_made_small(self):
        change = Change([[1, "a"], [2, "b"]], [[1, "b"], [2, "b"]])
        self.check(("project", (B,), T), {0: change}, [["a"]], [["b"]])
        self.check(("project", (A,), T), {0: change}, [], [])
        self.check(("union", T, T), {0: change}, [[1, "a"]] * 2, [[1, "b"]] * 2)
        self.check(("union", T, U), {0: Change([[1, "a"]], []), 1: Change([], [[1, "a"]])}, [], [])
        self.check(("union", T, U), {0: Change([[1, "a"]], []), 1: Change([], [[3, "z"]])}, [[1, "a"]], [[3, "z"]])

    def test_joins(self):
        def join(kind):
            return ("join", kind, 2, binary("equal", A, C), T, U)
        left, right = Change([[1, "a"]], [[2, "n"]]), Change([[2, "y"]], [[1, "z"]])
        self.check(join("inner"), {0: left}, [[1, "a", 1, "x"]], [[2, "n", 2, "y"]])
        self.check(join("inner"), {1: right}, [[2, "b", 2, "y"]] * 2, [[1, "a", 1, "z"]])
        self.check(join("inner"), {0: left, 1: right}, [[1, "a", 1, "x"]] + [[2, "b", 2, "y"]] * 2, [])
        self.check(join("left"), {0: left, 1: right}, [[1, "a", 1, "x"]] + [[2, "b", 2, "y"]] * 2,
                   [[2, "b", None, None]] * 2 + [[2, "n", None, None]])
        self.check(join("some"), {0: left, 1: right}, [[1, "a"]] + [[2, "b"]] * 2, [])
        self.check(join("none"), {0: left, 1: right}, [], [[2, "b"]] * 2 + [[2, "n"]])
        self.check(join("some"), {1: Change([], [[2, "w"]])}, [], [])
        # With no row of the right the row without a value is unknown, not False, with each one.
        self.check(join("never"), {1: right}, [], [[2, "b"]] * 2)
        self.check(join("never"), {1: Change(ROWS[1], [])}, [], ROWS[0])
        self.check(join("never"), {0: Change([], [[3, "q"], [None, "q"]])}, [], [[3, "q"]])

    def test_groups(self):
        values = (("rows", None), ("max", B))
        change = Change([[1, "a"], [2, "b"]], [[3, "c"], [2, "d"]])
        self.check(("group", (A,), values, T), {0: change}, [[1, 1, "a"], [2, 2, "b"]], [[2, 2, "d"], [3, 1, "c"]])
        self.check(("group", (), values, T), {0: change}, [[4, "c"]], [[4, "d"]])
        self.check(("group", (), (("rows", None),), T), {0: change}, [], [])
        self.check(("group", (), (("rows", None),), T), {0: Change(ROWS[0], [])}, [[4]], [[0]])
        self.check(("group", (A,), (), T), {0: Change([[2, "b"]], [])}, [], [])
        self.check(("group", (A,), (), T), {0: Change([[2, "b"]] * 2, [])}, [[2]], [])

    def test_distinct(self):
        self.check(("distinct", T), {0: Change([[2, "b"]], [])}, [], [])
        self.check(("distinct", T), {0: Change([[2, "b"]] * 2, [[3, "c"]] * 2)}, [[2, "b"]], [[3, "c"]])
        self.check(("distinct", T), {0: Change([[1, "a"]], [[2, "b"]])}, [[1, "a"]], [])
        self.check(("distinct", T), {0: Change([[2, "b"]] * 2, [[2, "b"]])}, [], [])

    def test_windows_and_tops(self):
        window = ("window", (A,), ((B, False),), (("number", None, None, None),), T)
        self.check(window, {0: Change([], [[2, "a"]])}, [[2, "b", 1]], [[2, "a", 1], [2, "b", 3]])
        self.check(window, {0: Change([[1, "a"]], [])}, [[1, "a", 1]], [])
        top = ("top", ((A, True),), 0, 2, T)
        self.check(top, {0: Change([[1, "a"]], [[0, "z"]])}, [], [])
        self.check(top, {0: Change([[2, "b"]], [[7, "z"]])}, [[2, "b"]], [[7, "z"]])


class Keepers(unittest.TestCase):
    def test_parts(self):
        plan = ("union", ("filter", binary("less", A, constant(2)), T), ("distinct", U))
        keeper = Keeper(plan, ROWS)
        self.assertEqual([bag(rows) for rows in keeper.parts()], [
            bag([[1, "a"]] + ROWS[1]), bag([[1, "a"]]), bag(ROWS[0]), bag(ROWS[1]), bag(ROWS[1])])
        keeper.take({0: Change([[1, "a"]], [[0, "z"]])})
        self.assertEqual([bag(rows) for rows in keeper.parts()][1:3], [bag([[0, "z"]]), bag(ROWS[0][1:] + [[0, "z"]])])

    def test_nothing_is_shared(self):
        rows = [[list(row) for row in table] for table in ROWS]
        constant_rows = [[5, "k"]]
        plan = ("union", ("distinct", T), ("rows", 2, tuple(constant_rows)))
        keeper = Keeper(plan, rows)
        wanted = bag(keeper.held())
        rows[0][0].append("more")
        constant_rows[0].append("more")
        keeper.held()[0].append("more")
        keeper.parts()[2][0].append("more")
        self.assertEqual(bag(keeper.held()), wanted)
        come = [[8, "h"]]
        change = Change([], come)
        told = keeper.take({0: change})
        change.come[0].append("more")
        told.come[0].append("more")
        self.assertEqual(bag(keeper.held()), sorted(wanted + bag([[8, "h"]])))

    def test_a_fork(self):
        plan = ("group", (A,), (("rows", None),), T)
        keeper = Keeper(plan, ROWS)
        fork = keeper.fork()
        keeper.take({0: Change([], [[9, "i"]])})
        self.assertEqual(bag(fork.held()), bag([[1, 1], [2, 2], [None, 1]]))
        fork.take({0: Change([[2, "b"]], [])})
        self.assertEqual(bag(fork.held()), bag([[1, 1], [2, 1], [None, 1]]))
        self.assertEqual(bag(keeper.held()), bag([[1, 1], [2, 2], [None, 1], [9, 1]]))
        self.assertEqual([bag(rows) for rows in fork.parts()][1], bag([[1, "a"], [2, "b"], [None, "c"]]))

    def test_tables_that_are_not_there(self):
        keeper = Keeper(("table", 5), ROWS)
        self.assertEqual(keeper.held(), [])
        keeper.take({0: Change([[1, "a"]], [])})
        self.assertEqual(keeper.held(), [])


class Everything(unittest.TestCase):
    def changes_for(self, chance, plans, tables):
        changes = {}
        for number, rows in enumerate(tables):
            if chance.random() < 0.5:
                gone = chance.sample(rows, chance.randrange(len(rows) + 1))
                come = [[plans.value() for _ in range(WIDTHS[number])] for _ in range(chance.randrange(3))]
                if chance.random() < 0.3:
                    come.extend(gone[:1])
                changes[number] = Change(gone, come)
        return changes

    def test_every_operator_follows(self):
        chance = random.Random(141)
        for _ in range(250):
            plans = Plans(chance)
            plan, _ = plans.plan(chance.randrange(1, 6))
            tables = plans.tables(5)
            keeper = Keeper(plan, tables)
            for _ in range(4):
                changes = self.changes_for(chance, plans, tables)
                before = keeper.held()
                fork = keeper.fork()
                change = keeper.take(changes)
                tables = [changed_rows(rows, changes.get(at, Change([], []))) for at, rows in enumerate(tables)]
                for operator, rows in zip(operators_in(plan), keeper.parts()):
                    self.assertEqual(bag(rows), bag(rows_of(operator, tables)), (plan, operator))
                self.assertEqual(bag(changed_rows(before, change)), bag(keeper.held()))
                # Only rows that are there go, as often as they are there.
                there = counted(before)
                self.assertTrue(all(there.get(row, 0) >= many for row, many in counted(change.gone).items()))
                if plan[0] not in ("table", "filter"):
                    small = change.small()
                    self.assertTrue(is_exactly((small.gone, small.come), (change.gone, change.come)), plan)
                self.assertTrue(is_exactly(fork.held(), before))
