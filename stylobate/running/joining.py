"""Joins of two lists of rows: by loops, by tables of hashed keys, or by merging sorted rows."""

from stylobate.meaning.joins import join_by
from stylobate.running.hashes import PARTS, TIMES, part_of
from stylobate.running.physical import pair_value, paired_keys
from stylobate.running.sorting import rising, sort_rows, sort_written
from stylobate.values.expressions import evaluate_all
from stylobate.values.order import row_rank


def way_of_join(way, kind):
    """Return the way in which a join is worked: "never" needs all pairs, whatever the way says."""
    return "loop" if kind == "never" else way


def _key_of(keys, row):
    return row_rank(evaluate_all(keys, row))


def _places_by_key(keys, rows):
    """Return for each key the list of the places of the rows that have it, in order."""
    places = {}
    for at, row in enumerate(rows):
        places.setdefault(_key_of(keys, row), []).append(at)
    return places


class Pairing:
    """What tells which rows belong together: the keys of both sides, and the rest of the condition."""

    def __init__(self, kind, width, left_keys, right_keys, rest):
        self.kind = kind
        self.width = width
        self.left_keys = left_keys
        self.right_keys = right_keys
        self.rest = rest

    def value(self, row, other):
        """Return the value of a pair of rows."""
        return pair_value(self.left_keys, self.right_keys, self.rest, row, other)

    def joined(self, rows, others):
        """Return what rows of the left side give beside some rows of the right one."""
        return join_by(self.kind, self.width, lambda row, other: self.value(row, other), rows, others)


def _by_right_table(pairs, a, b):
    places = _places_by_key(pairs.right_keys, b)
    found = []
    for row in a:
        others = [b[at] for at in places.get(_key_of(pairs.left_keys, row), [])]
        found.extend(pairs.joined([row], others))
    return found


def _by_left_table(pairs, a, b):
    places = _places_by_key(pairs.left_keys, a)
    matched = [False] * len(a)
    found = []
    for other in b:
        for at in places.get(_key_of(pairs.right_keys, other), []):
            if pairs.value(a[at], other) is True:
                matched[at] = True
                found.append(list(a[at]) + list(other))
    if pairs.kind == "inner":
        return found
    if pairs.kind == "left":
        alone = [list(row) for row, has_match in zip(a, matched) if not has_match]
        return found + [row + [None] * pairs.width for row in alone]
    wanted = pairs.kind == "some"
    return [list(row) for row, has_match in zip(a, matched) if has_match == wanted]


def _by_merging(pairs, a, b, memory):
    lefts = sort_rows(a, rising(pairs.left_keys), memory)
    rights = sort_rows(b, rising(pairs.right_keys), memory)
    ranks = [_key_of(pairs.right_keys, other) for other in rights]
    found = []
    first = 0
    behind = 0
    for row in lefts:
        key = _key_of(pairs.left_keys, row)
        while first < len(rights) and ranks[first] < key:
            first += 1
        behind = max(first, behind)
        while behind < len(rights) and ranks[behind] == key:
            behind += 1
        found.extend(pairs.joined([row], rights[first:behind]))
    return found


def _in_parts(keys, rows, time, hashed):
    """Return the lists of the rows of the parts at this time."""
    parts = [[] for _ in range(PARTS)]
    for row in rows:
        parts[part_of(hashed(evaluate_all(keys, row)), time)].append(row)
    return parts


def _divided(way, keys, sides, memory, hashed):
    """Return the parts that a join by hash works in memory, in order, and how many rows are written.

    `keys` and `sides` are pairs of the left and the right one; so is each part.
    """
    found = []
    written = 0
    waiting = [(sides, 0)]
    while waiting:
        (a, b), time = waiting.pop()
        table = a if way == "hash left" else b
        if len(table) <= memory or time == TIMES:
            found.append((a, b))
        else:
            written += len(a) + len(b)
            lefts = _in_parts(keys[0], a, time, hashed)
            rights = _in_parts(keys[1], b, time, hashed)
            parts = [(part, time + 1) for part in zip(lefts, rights)]
            waiting.extend(parts[::-1])
    return found, written


def join_rows_by(way, kind, width, left, right, rest, a, b, *, memory, hashed):
    """Return the rows of a join of two lists of rows, worked in this way."""
    left, right = paired_keys(left, right)
    pairs = Pairing(kind, width, left, right, rest)
    way = way_of_join(way, kind)
    if way == "loop":
        return pairs.joined(a, b)
    if way == "merge":
        return _by_merging(pairs, a, b, memory)
    parts, _ = _divided(way, (left, right), (a, b), memory, hashed)
    found = []
    for lefts, rights in parts:
        if way == "hash left":
            found.extend(_by_left_table(pairs, lefts, rights))
        else:
            found.extend(_by_right_table(pairs, lefts, rights))
    return found


def join_written(way, kind, left, right, a, b, *, memory, hashed):
    """Return how many rows a join writes that is worked in this way."""
    way = way_of_join(way, kind)
    if way == "loop":
        return 0
    if way == "merge":
        return sort_written(a, memory) + sort_written(b, memory)
    _, written = _divided(way, paired_keys(left, right), (a, b), memory, hashed)
    return written


def join_needs(way, kind, a, b):
    """Return the least memory with which a join writes nothing."""
    way = way_of_join(way, kind)
    if way == "loop":
        return 0
    if way == "merge":
        return max(len(a), len(b))
    return len(a) if way == "hash left" else len(b)
