"""Points 102, 109 to 113: joins in every way, the order of their rows, and what is written."""

import itertools
import random
import unittest

from stylobate.meaning.joins import join_by
from stylobate.running.hashes import hash_of, part_of
from stylobate.running.joining import join_rows_by, join_written
from stylobate.running.physical import meaning_of, pair_value
from stylobate.running.sorting import sort_rows
from stylobate.values.expressions import evaluate_all
from tests.random_plans import bag
from tests.samples import binary, column, constant, is_exactly, unary

A, B, C = column(0), column(1), column(2)
TRUE = constant(True)
WAYS = ("hash right", "hash left", "merge", "loop")
KINDS = ("inner", "left", "some", "none", "never")
LEFT = [[3], [1], [2], [1]]
RIGHT = [[1, "x"], [2, "y"], [1, "z"], [4, "w"]]
VALUES = [None, True, False, 0, 1, 2, 1, "a", "b"]


def by_tens(values):
    """A hash whose first part is the first value."""
    return values[0] * 64


def always(values):
    return 5


def rows_by(way, kind, *, keys=((A,), (A,)), rest=TRUE, a=LEFT, b=RIGHT, memory=100, hashed=hash_of):
    return join_rows_by(way, kind, 2, keys[0], keys[1], rest, a, b, memory=memory, hashed=hashed)


def written_by(way, kind, *, keys=((A,), (A,)), a=LEFT, b=RIGHT, memory=100, hashed=hash_of):
    return join_written(way, kind, keys[0], keys[1], a, b, memory=memory, hashed=hashed)


class InMemory(unittest.TestCase):
    def test_by_loops_and_by_a_table_of_the_right(self):
        pairs = [[1, 1, "x"], [1, 1, "z"]]
        wanted = {
            "inner": pairs + [[2, 2, "y"]] + pairs, "left": [[3, None, None]] + pairs + [[2, 2, "y"]] + pairs,
            "some": [[1], [2], [1]], "none": [[3]], "never": [[3]],
        }
        for kind in KINDS:
            for way in ("loop", "hash right"):
                self.assertEqual(rows_by(way, kind), wanted[kind], (way, kind))
                self.assertEqual(written_by(way, kind), 0)

    def test_by_a_table_of_the_left(self):
        pairs = [[1, 1, "x"], [1, 1, "x"], [2, 2, "y"], [1, 1, "z"], [1, 1, "z"]]
        self.assertEqual(rows_by("hash left", "inner"), pairs)
        self.assertEqual(rows_by("hash left", "left"), pairs + [[3, None, None]])
        self.assertEqual(rows_by("hash left", "some"), [[1], [2], [1]])
        self.assertEqual(rows_by("hash left", "none"), [[3]])
        self.assertEqual(rows_by("hash left", "never"), [[3]])
        self.assertEqual(rows_by("hash left", "left", b=[]), [row + [None, None] for row in LEFT])

    def test_by_merging(self):
        right = [[2, "z"], [1, "z"], [2, "a"]]
        left = [[2, 9], [0, 0], [1, 1], [2, 3]]
        pairs = [[1, 1, 1, "z"], [2, 3, 2, "a"], [2, 3, 2, "z"], [2, 9, 2, "a"], [2, 9, 2, "z"]]
        self.assertEqual(rows_by("merge", "inner", a=left, b=right), pairs)
        self.assertEqual(rows_by("merge", "left", a=left, b=right), [[0, 0, None, None]] + pairs)
        self.assertEqual(rows_by("merge", "some", a=left, b=right), [[1, 1], [2, 3], [2, 9]])
        self.assertEqual(rows_by("merge", "none", a=left, b=right), [[0, 0]])
        # The sort is by the keys, and then by the order of rows.
        self.assertEqual(rows_by("merge", "none", keys=((unary("negate", A),), (A,)), a=left, b=[]),
                         [[2, 3], [2, 9], [1, 1], [0, 0]])
        # "never" is worked by loops, so its rows are in the order of the left side.
        self.assertEqual(rows_by("merge", "never", a=[[2], [0], [1]], b=[[5, 0]]), [[2], [0], [1]])

    def test_the_rest(self):
        less = binary("less", constant("x"), C)
        for way in WAYS:
            self.assertEqual(bag(rows_by(way, "inner", rest=less)), bag([[1, 1, "z"], [1, 1, "z"], [2, 2, "y"]]))
            self.assertEqual(rows_by(way, "none", rest=binary("equal", C, constant("q"))),
                             sorted(LEFT) if way == "merge" else LEFT)

    def test_rows_are_new(self):
        for way, kind in itertools.product(WAYS, KINDS):
            a, b = [list(row) for row in LEFT], [list(row) for row in RIGHT]
            for memory in (1, 100):
                for row in rows_by(way, kind, a=a, b=b, memory=memory):
                    row.append("more")
            self.assertEqual((a, b), (LEFT, RIGHT))


class InParts(unittest.TestCase):
    def test_the_order_and_the_times(self):
        # All rows are written once; those with the key 1 stay together at each of the three times.
        pairs = [[1, 1, "x"], [1, 1, "z"]]
        self.assertEqual(rows_by("hash right", "inner", memory=1, hashed=by_tens), pairs + pairs + [[2, 2, "y"]])
        self.assertEqual(written_by("hash right", "inner", memory=1, hashed=by_tens), 8 + 4 + 4)
        self.assertEqual(written_by("hash right", "inner", memory=2, hashed=by_tens), 8)
        self.assertEqual(written_by("hash right", "inner", memory=3, hashed=by_tens), 8)
        self.assertEqual(written_by("hash right", "inner", memory=4, hashed=by_tens), 0)
        self.assertEqual(rows_by("hash right", "left", memory=1, hashed=by_tens),
                         pairs + pairs + [[2, 2, "y"], [3, None, None]])
        crossed = [[1, 1, "x"], [1, 1, "x"], [1, 1, "z"], [1, 1, "z"]]
        self.assertEqual(rows_by("hash left", "left", memory=3, hashed=by_tens),
                         crossed + [[2, 2, "y"], [3, None, None]])
        self.assertEqual(rows_by("hash left", "none", memory=1, hashed=by_tens), [[3]])
        self.assertEqual(rows_by("hash left", "some", memory=1, hashed=by_tens), [[1], [1], [2]])

    def test_a_hash_that_is_always_the_same(self):
        for way in ("hash right", "hash left"):
            for kind in KINDS[:4]:
                self.assertEqual(rows_by(way, kind, memory=3, hashed=always), rows_by(way, kind))
                self.assertEqual(written_by(way, kind, memory=3, hashed=always), 24)
                self.assertEqual(written_by(way, kind, memory=4, hashed=always), 0)
            self.assertEqual(written_by(way, "never", memory=1, hashed=always), 0)

    def test_the_side_of_the_table_decides(self):
        one, many = [[1]], [[value] for value in range(9)]
        self.assertEqual(written_by("hash left", "inner", a=one, b=many, memory=1), 0)
        self.assertEqual(written_by("hash right", "inner", a=many, b=one, memory=1), 0)
        self.assertGreater(written_by("hash left", "inner", a=many, b=one, memory=8), 0)
        self.assertGreater(written_by("hash right", "inner", a=one, b=many, memory=8), 0)
        for way in ("hash left", "hash right"):
            self.assertEqual(written_by(way, "inner", a=[], b=[], memory=1), 0)
        # Rows of the other side are written, too, where the side of the table has too many.
        self.assertEqual(written_by("hash right", "inner", a=[[7]] * 5, b=[[0], [1]], memory=1, hashed=by_tens), 7)

    def test_without_keys_all_rows_are_in_one_part(self):
        for way in ("hash right", "hash left"):
            self.assertEqual(rows_by(way, "inner", keys=((), ()), memory=1), rows_by(way, "inner", keys=((), ())))
            self.assertEqual(written_by(way, "inner", keys=((), ()), memory=1), 24)

    def test_merging_writes_what_its_sorts_write(self):
        a, b = [[1]] * 3, [[1, 2]] * 5
        written = [written_by("merge", "inner", a=a, b=b, memory=memory) for memory in range(1, 7)]
        self.assertEqual(written, [8, 8, 5, 5, 0, 0])
        self.assertEqual(written_by("merge", "never", a=a, b=b, memory=1), 0)
        self.assertEqual(written_by("loop", "inner", a=a, b=b, memory=1), 0)


class Model:
    """Joins, worked slowly and word by word as the points tell it."""

    def __init__(self, way, kind, left, right, rest, memory, hashed):
        many = min(len(left), len(right))
        self.way, self.kind, self.rest, self.memory, self.hashed = way, kind, rest, memory, hashed
        self.left, self.right = left[:many], right[:many]
        self.written = 0

    def value(self, row, other):
        return pair_value(self.left, self.right, self.rest, row, other)

    def by_loops(self, a, b):
        return join_by(self.kind, 2, self.value, a, b)

    def left_table(self, a, b):
        pairs = [row + other for other in b for row in a if self.value(row, other) is True]
        alone = [row for row in a if all(self.value(row, other) is not True for other in b)]
        if self.kind == "inner":
            return pairs
        if self.kind == "left":
            return pairs + [row + [None, None] for row in alone]
        return alone if self.kind == "none" else [row for row in a if row not in alone]

    def parts(self, a, b, time):
        table = b if self.way == "hash right" else a
        if len(table) <= self.memory or time == 3:
            return self.by_loops(a, b) if self.way == "hash right" else self.left_table(a, b)
        self.written += len(a) + len(b)
        found = []
        for part in range(8):
            lefts = [row for row in a if part_of(self.hashed(evaluate_all(self.left, row)), time) == part]
            rights = [row for row in b if part_of(self.hashed(evaluate_all(self.right, row)), time) == part]
            found += self.parts(lefts, rights, time + 1)
        return found

    def rows(self, a, b):
        if self.way == "loop" or self.kind == "never":
            return self.by_loops(a, b)
        if self.way == "merge":
            sides = []
            for rows, keys in ((a, self.left), (b, self.right)):
                self.written += len(rows) if len(rows) > self.memory else 0
                sides.append(sort_rows(rows, [(key, False) for key in keys], 1000))
            return self.by_loops(sides[0], sides[1])
        return self.parts(a, b, 0)


class Everything(unittest.TestCase):
    def lists(self, chance):
        many = chance.choice([(0, 0), (0, 5), (5, 0), (1, 1), (6, 4), (9, 12)])
        return [[[chance.choice(VALUES), chance.choice(VALUES)] for _ in range(rows)] for rows in many]

    def test_rows_order_and_writing(self):
        chance = random.Random(113)
        keys = [((A,), (A,)), ((A, B), (B, A)), ((A, B), (A,)), ((), (A,)), ((), ()), ((unary("is null", A),), (B,)),
                ((binary("coalesce", A, constant(1)),), (A,))]
        rests = [TRUE, binary("less", B, column(3)), constant(None), binary("same", A, C), constant(1)]
        for _ in range(60):
            a, b = self.lists(chance)
            for way, kind in itertools.product(WAYS, KINDS):
                (left, right), rest = chance.choice(keys), chance.choice(rests)
                memory, hashed = chance.choice([1, 2, 3, 5, 8, 50]), chance.choice([hash_of, always, len])
                model = Model(way, kind, left, right, rest, memory, hashed)
                wanted = model.rows(a, b)
                found = join_rows_by(way, kind, 2, left, right, rest, a, b, memory=memory, hashed=hashed)
                self.assertTrue(is_exactly(found, wanted), (way, kind, left, right, rest, a, b, memory))
                written = join_written(way, kind, left, right, a, b, memory=memory, hashed=hashed)
                self.assertEqual(written, model.written, (way, kind, left, right, a, b, memory))
                plan = ("join", way, kind, 2, left, right, rest, ("rows", 2, tuple(a)), ("rows", 2, tuple(b)))
                self.assertEqual(bag(found), bag(meaning_of(plan, [])))

    def test_keys_that_are_none_or_of_another_kind(self):
        a, b = [[None], [True], [1], ["1"], [False], [0]], [[None, 0], [1, 1], [True, 2], [0, 3]]
        pairs = [[True, True, 2], [1, 1, 1], [0, 0, 3]]
        alone = [[None], ["1"], [False]]
        for way, memory in itertools.product(WAYS, (1, 2, 100)):
            self.assertEqual(bag(rows_by(way, "inner", a=a, b=b, memory=memory)), bag(pairs))
            self.assertEqual(bag(rows_by(way, "left", a=a, b=b, memory=memory)),
                             bag(pairs + [row + [None, None] for row in alone]))
            self.assertEqual(bag(rows_by(way, "some", a=a, b=b, memory=memory)), bag([[True], [1], [0]]))
            self.assertEqual(bag(rows_by(way, "none", a=a, b=b, memory=memory)), bag(alone))
            self.assertEqual(rows_by(way, "never", a=a, b=b, memory=memory), [])
