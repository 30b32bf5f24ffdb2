"""Points 70 and 71: functions of windows."""

import random
import unittest

from stylobate.meaning.aggregates import aggregate
from stylobate.meaning.order import row_comes_before, sorted_rows
from stylobate.meaning.windows import window_rows
from stylobate.values.expressions import evaluate, evaluate_all
from stylobate.values.order import different_rows, same_rows
from tests.samples import LIMIT, binary, column, constant, is_exactly

A, B = column(0), column(1)
UP, DOWN = (A, False), (A, True)


def plain(name):
    return (name, None, None, None)


def framed(name, frame=None, expression=A):
    return (name, expression, frame, None)


def slow_tile(place, many, tiles):
    """The number of the tile of a place, by laying the tiles out one after another."""
    laid = []
    for tile in range(min(tiles, many)):
        length = many // tiles + (1 if tile < many % tiles else 0)
        laid += [tile + 1] * length
    return laid[place] if tiles > 0 else None


def slow_value(function, part, place, keys):
    """The value of a function in a row of a part in order: the words of the document."""
    name, expression, frame, n = function
    row = part[place]
    ahead = [other for other in part if row_comes_before(other, row, keys)]
    if name == "number":
        return place + 1
    if name == "rank":
        return len(ahead) + 1
    if name == "dense":
        return len(different_rows([evaluate_all([e for e, _ in keys], other) for other in ahead])) + 1
    if name == "tile":
        return slow_tile(place, len(part), n)
    if name in ("before", "after"):
        wanted = place - n if name == "before" else place + n
        return evaluate(expression, part[wanted]) if 0 <= wanted < len(part) else None
    if frame is None:
        rows = [other for other in part if not row_comes_before(row, other, keys)]
    else:
        rows = [other for at, other in enumerate(part) if place - frame[0] <= at <= place + frame[1]]
    if name in ("first", "last"):
        return evaluate(expression, rows[0 if name == "first" else -1]) if rows else None
    return aggregate((name, expression), rows)


def slow_window(parts, keys, functions, rows):
    told = different_rows([evaluate_all(parts, row) for row in rows])
    found = []
    for key in told:
        part = sorted_rows([row for row in rows if same_rows(evaluate_all(parts, row), key)], keys)
        for place, row in enumerate(part):
            found.append(row + [slow_value(function, part, place, keys) for function in functions])
    return found


class Windows(unittest.TestCase):
    def values(self, function, rows, keys=(UP,), parts=()):
        """The values of one function, for rows that stand in order."""
        found = window_rows(parts, keys, (function,), rows)
        self.assertTrue(is_exactly([row[:-1] for row in found], rows), found)
        return [row[-1] for row in found]

    def check(self, function, numbers, wanted, keys=(UP,)):
        found = self.values(function, [[number] for number in numbers], keys)
        self.assertTrue(is_exactly(found, wanted), (function, found))

    def test_numbers_and_ranks(self):
        numbers = [1, 1, 2, 5, 5, 5, 7]
        self.check(plain("number"), numbers, [1, 2, 3, 4, 5, 6, 7])
        self.check(plain("rank"), numbers, [1, 1, 3, 4, 4, 4, 7])
        self.check(plain("dense"), numbers, [1, 1, 2, 3, 3, 3, 4])
        self.check(plain("rank"), numbers[::-1], [1, 2, 2, 2, 5, 6, 6], (DOWN,))
        # Without keys all rows of the part are peers.
        self.check(plain("number"), numbers, [1, 2, 3, 4, 5, 6, 7], ())
        self.check(plain("rank"), numbers, [1] * 7, ())
        self.check(plain("dense"), numbers, [1] * 7, ())
        self.check(plain("dense"), [None, True, 1, "1"], [1, 2, 3, 4])

    def test_tiles(self):
        def tile(n):
            return ("tile", None, None, n)
        self.check(tile(1), [1, 2, 3], [1, 1, 1])
        self.check(tile(2), [1, 2, 3, 4, 5], [1, 1, 1, 2, 2])
        self.check(tile(3), [1, 2, 3, 4, 5], [1, 1, 2, 2, 3])
        self.check(tile(3), [1, 2, 3, 4, 5, 6], [1, 1, 2, 2, 3, 3])
        self.check(tile(4), [1, 2, 3, 4, 5], [1, 1, 2, 3, 4])
        self.check(tile(5), [1, 2, 3, 4, 5], [1, 2, 3, 4, 5])
        self.check(tile(6), [1, 2, 3], [1, 2, 3])
        self.check(tile(LIMIT), [1, 2, 3], [1, 2, 3])
        self.check(tile(0), [1, 2, 3], [None, None, None])
        for many in range(1, 12):
            for tiles in range(15):
                self.check(tile(tiles), list(range(many)), [slow_tile(at, many, tiles) for at in range(many)])

    def test_the_frame_without_bounds_has_the_peers(self):
        numbers = [1, 1, 2, 5, 5]
        self.check(framed("sum"), numbers, [2, 2, 4, 14, 14])
        self.check(framed("count"), numbers, [2, 2, 3, 5, 5])
        self.check(framed("min"), numbers, [1] * 5)
        self.check(framed("max"), numbers, [1, 1, 2, 5, 5])
        self.check(framed("first"), numbers, [1] * 5)
        self.check(framed("last"), numbers, [1, 1, 2, 5, 5])
        self.check(framed("sum"), numbers, [14] * 5, ())
        self.check(framed("last"), numbers, [5] * 5, ())

    def test_frames_of_rows(self):
        numbers = [1, 2, 4, 8, 16]
        self.check(framed("sum", (0, 0)), numbers, numbers)
        self.check(framed("sum", (1, 0)), numbers, [1, 3, 6, 12, 24])
        self.check(framed("sum", (0, 1)), numbers, [3, 6, 12, 24, 16])
        self.check(framed("sum", (1, 1)), numbers, [3, 7, 14, 28, 24])
        self.check(framed("count", (2, 1)), numbers, [2, 3, 4, 4, 3])
        self.check(framed("max", (2, 0)), numbers[::-1], [16, 16, 16, 8, 4], (DOWN,))
        self.check(framed("min", (0, 2)), numbers, [1, 2, 4, 8, 16])
        self.check(framed("first", (3, 0)), numbers, [1, 1, 1, 1, 2])
        self.check(framed("last", (0, 3)), numbers, [8, 16, 16, 16, 16])
        # Peers do not matter here.
        self.check(framed("sum", (1, 0)), [1, 1, 1], [1, 2, 2])

    def test_frames_beyond_the_part_or_without_rows(self):
        numbers = [1, 2, 4]
        for far in (2, 3, LIMIT):
            self.check(framed("sum", (far, far)), numbers, [7, 7, 7])
            self.check(framed("first", (far, 0)), numbers, [1, 1, 1])
            self.check(framed("last", (0, far)), numbers, [4, 4, 4])
        empty = [(-1, 0), (0, -1), (-5, 5), (5, -5), (-3, 9), (9, -3), (-LIMIT, LIMIT)]
        for frame in empty[:2]:
            self.check(framed("sum", frame), numbers, [None, None, None])
            self.check(framed("count", frame), numbers, [0, 0, 0])
        for frame in empty:
            for name in ("sum", "min", "max", "first", "last"):
                self.check(framed(name, frame), numbers, [None, None, None])
            self.check(framed("count", frame), numbers, [0, 0, 0])
        self.check(framed("sum", (-1, 1)), numbers, [2, 4, None])
        self.check(framed("max", (2, -1)), numbers, [None, 1, 2])

    def test_values_in_frames(self):
        rows = [[1, None], [2, "a"], [3, True], [4, 7], [5, None]]
        told = {"sum": [None, None, None, 7, 7], "count": [0, 1, 2, 3, 3], "min": [None, "a", True, True, True],
                "max": [None, "a", "a", "a", "a"], "first": [None] * 5, "last": [None, "a", True, 7, None]}
        for name, wanted in told.items():
            self.assertTrue(is_exactly(self.values(framed(name, None, B), rows), wanted), name)
        limits = [[1, LIMIT], [2, 1], [3, -1], [4, -LIMIT]]
        self.assertEqual(self.values(framed("sum", None, B), limits), [LIMIT, None, LIMIT, 0])
        self.assertEqual(self.values(framed("max", (1, 0), B), limits), [LIMIT, LIMIT, 1, -1])

    def test_before_and_after(self):
        numbers = [1, 2, 3]
        for n, wanted in ((0, [1, 2, 3]), (1, [None, 1, 2]), (2, [None, None, 1]), (3, [None] * 3), (LIMIT, [None] * 3)):
            self.check(("before", A, None, n), numbers, wanted)
        self.check(("after", A, None, 0), numbers, numbers)
        self.check(("after", A, None, 1), numbers, [2, 3, None])
        self.check(("after", A, None, 2), numbers, [3, None, None])
        self.check(("after", A, None, LIMIT), numbers, [None, None, None])
        self.check(("after", binary("add", A, constant(1)), None, 1), numbers, [3, 4, None])

    def test_parts_in_the_order_of_their_first_occurrence(self):
        rows = [["b", 2], [None, 1], ["a", 9], ["b", 1], [True, 3], [1, 4], ["a", None], [None, 1]]
        found = window_rows((A,), ((B, False),), (plain("number"), framed("sum", None, B)), rows)
        self.assertTrue(is_exactly(found, [
            ["b", 1, 1, 1], ["b", 2, 2, 3], [None, 1, 1, 2], [None, 1, 2, 2], ["a", None, 1, None], ["a", 9, 2, 9],
            [True, 3, 1, 3], [1, 4, 1, 4]]), found)
        by_both = window_rows([A, B], [], [plain("number")], rows)
        self.assertEqual([row[2] for row in by_both], [1, 1, 2, 1, 1, 1, 1, 1])

    def test_peers_are_told_in_the_order_of_rows(self):
        rows = [[1, "b"], [1, "a"], [0, "c"]]
        self.assertEqual(window_rows((), (DOWN,), (plain("number"),), rows),
                         [[1, "a", 1], [1, "b", 2], [0, "c", 3]])

    def test_empty_ones(self):
        functions = (plain("number"), framed("sum"), framed("max", (1, 1)))
        self.assertEqual(window_rows((), (UP,), functions, []), [])
        self.assertEqual(window_rows((A,), (), functions, []), [])
        self.assertEqual(window_rows((), (), (), [[2], [1]]), [[1], [2]])

    def test_rows_stay_as_they_are(self):
        rows = [[2], [1]]
        for row in window_rows((), (), (plain("rank"),), rows) + window_rows((), (), (), rows):
            row.append(0)
        self.assertEqual(rows, [[2], [1]])

    def test_by_chance(self):
        chance = random.Random(70)
        values = [None, True, False, 0, 1, 2, 3, "a", ""]
        for _ in range(300):
            rows = [[chance.choice(values) for _ in range(3)] for _ in range(chance.randrange(12))]
            parts = [column(chance.randrange(3)) for _ in range(chance.randrange(2))]
            keys = [(column(chance.randrange(3)), chance.random() < 0.5) for _ in range(chance.randrange(3))]
            functions = [plain("number"), plain("rank"), plain("dense"), ("tile", None, None, chance.randrange(6))]
            for name in ("sum", "count", "min", "max", "first", "last"):
                frame = (chance.randrange(-3, 4), chance.randrange(-3, 4))
                functions += [framed(name, None, column(1)), framed(name, frame, column(1))]
            functions += [(name, column(2), None, chance.randrange(4)) for name in ("before", "after")]
            found = window_rows(parts, keys, functions, rows)
            self.assertTrue(is_exactly(found, slow_window(parts, keys, functions, rows)), (rows, parts, keys))


if __name__ == "__main__":
    unittest.main()
