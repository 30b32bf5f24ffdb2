"""Point 118: the profile of each operator, and what it needs."""

import random
import unittest

from stylobate.optimizer.choices import physical
from stylobate.optimizer.statistics import statistics_of
from stylobate.running.profile import Work, needs_of, profile
from stylobate.running.run import Counters, run
from stylobate.running.physical import meaning_of, operators_of
from stylobate.storage.tables import Column, Table
from tests.random_plans import WIDTHS, Plans, stored
from tests.samples import binary, column, constant

A, B = column(0), column(1)
TRUE = constant(True)
ROWS = [[[1, "a"], [2, "b"], [1, "c"], [3, "a"], [1, "a"]], [[1, "x"], [2, "y"]]]
T = ("scan", 0, TRUE, (0, 1))
U = ("scan", 1, TRUE, (0, 1))


def tables():
    found = []
    for rows in ROWS:
        table = Table([Column("a", "int", True), Column("b", "text", True)], 2)
        table.insert(rows)
        found.append(table)
    return found


def numbers(counters):
    return (counters.read, counters.skipped, counters.batches, counters.written)


def told(work):
    return (work.operator[0], work.given, work.needs) + numbers(work.counters)


class Profiles(unittest.TestCase):
    def test_a_work(self):
        counters = Counters()
        work = Work(T, 4, 2, counters)
        self.assertEqual((work.operator, work.given, work.needs), (T, 4, 2))
        self.assertEqual(work.counters, counters)

    def test_worked_by_hand(self):
        condition = binary("at most", constant(2), A)
        left = ("filter", condition, ("project", (A, B), T))
        join = ("join", "hash right", "left", 2, (A,), (A,), TRUE, left, U)
        plan = ("top", ((A, True),), 0, 2, ("group", "hash", (A,), (("rows", None),), join))
        works = profile(plan, tables(), batch=2, memory=1)
        # The hashes of the keys 1, 2 and 3 are 2231, 2232 and 2233: their first parts are the same, and
        # the second part of 1 is another one than that of 2 and 3.
        self.assertEqual([work.operator for work in works], [plan, plan[4], join, left, left[2], T, U])
        self.assertEqual([told(work) for work in works], [
            ("top", 2, 2, 0, 0, 1, 2),
            ("group", 2, 2, 0, 0, 1, 1),
            ("join", 2, 2, 0, 0, 1, 8),
            ("filter", 2, 0, 0, 0, 2, 0),
            ("project", 5, 0, 0, 0, 3, 0),
            ("scan", 5, 0, 2, 0, 3, 0),
            ("scan", 2, 0, 1, 0, 1, 0),
        ])
        _, counters = run(plan, tables(), batch=2, memory=1)
        gathered = Counters()
        for work in works:
            gathered.gather(work.counters)
        self.assertEqual(counters, gathered)

    def test_skipped_groups(self):
        plan = ("scan", 0, binary("at most", constant(3), A), (0,))
        self.assertEqual([told(work) for work in profile(plan, tables(), batch=1, memory=1)],
                         [("scan", 1, 0, 1, 1, 1, 0)])

    def test_needs(self):
        join = ("join", "merge", "inner", 2, (A,), (A,), TRUE, T, U)
        cases = [
            (T, 0), (("rows", 1, ((1,),)), 0), (("filter", TRUE, T), 0), (("project", (A,), T), 0),
            (("union", T, U), 0), (("group", "sort", (), (("rows", None),), T), 0),
            (("group", "hash", (), (), T), 0), (("group", "hash", (A,), (), T), 3),
            (("group", "hash", (constant(1),), (), T), 1), (("group", "sort", (A,), (), T), 5),
            (("distinct", "hash", T), 4), (("distinct", "sort", T), 5), (("window", (), (), (), T), 5),
            (join, 5), (join[:7] + (U, T), 5), (("join", "loop") + join[2:], 0), (("join", "hash right") + join[2:], 2),
            (("join", "hash left") + join[2:], 5), (("join", "hash left", "never") + join[3:], 0),
            (("join", "merge", "never") + join[3:], 0),
            (("top", (), 0, None, T), 5), (("top", (), 3, None, T), 5), (("top", (), 0, 0, T), 0),
            (("top", (), 1, 2, T), 3), (("top", (), 4, 1, T), 5), (("top", (), 4, 4, T), 5), (("top", (), 9, 0, T), 5),
            (("group", "hash", (A,), (), ("scan", 7, TRUE, (0,))), 0),
        ]
        for operator, wanted in cases:
            self.assertEqual(needs_of(operator, ROWS), wanted, operator)
            self.assertEqual(profile(operator, tables(), batch=3, memory=2)[0].needs, wanted, operator)

    def test_with_what_it_needs_it_writes_nothing(self):
        chance = random.Random(118)
        for _ in range(150):
            plans = Plans(chance)
            rows = plans.tables()
            plan = plans.plan(4)[0]
            plan = physical(plan, statistics_of(WIDTHS, rows), [chance.randrange(6) for _ in range(6)])
            found = profile(plan, stored(rows, 2), batch=2, memory=3)
            self.assertEqual([work.operator for work in found], operators_of(plan))
            for work in found:
                self.assertEqual(work.needs, needs_of(work.operator, rows))
                self.assertEqual(work.given, len(meaning_of(work.operator, rows)))
                for memory in (work.needs, work.needs - 1):
                    if memory < 1:
                        continue
                    alone = profile(work.operator, stored(rows, 2), batch=2, memory=memory)[0]
                    self.assertEqual(alone.counters.written == 0, memory == work.needs, (work.operator, memory))

    def test_a_hash_that_is_always_the_same(self):
        plan = ("distinct", "hash", T)
        work = profile(plan, tables(), batch=2, memory=1, hashed=lambda values: 1)[0]
        # Of four different rows three are held one by one, the fourth with the third part of a part.
        self.assertEqual(work.counters.written, 3 + 2 + 1)
