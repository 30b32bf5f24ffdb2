"""Groups and distinct rows: by tables of hashed keys, or by sorted rows."""

from stylobate.meaning.groups import group_rows
from stylobate.running.hashes import PARTS, TIMES, part_of
from stylobate.running.sorting import rising, sort_rows, sort_written
from stylobate.values.expressions import evaluate_all
from stylobate.values.order import different_rows, row_rank


def _held_and_parts(pairs, time, memory, hashed):
    """Return the list of the pairs whose keys are held, and the lists of the others in their parts."""
    held = {}
    kept = []
    parts = [[] for _ in range(PARTS)]
    for values, row in pairs:
        key = row_rank(values)
        if key in held or len(held) < memory or time == TIMES:
            held[key] = True
            kept.append((values, row))
        else:
            parts[part_of(hashed(values), time)].append((values, row))
    return kept, parts


def _divided(pairs, memory, hashed):
    """Return the lists of rows whose keys are held together, in order, and how many rows are written.

    `pairs` are the rows, each behind the list of the values of its keys.
    """
    found = []
    written = 0
    waiting = [(pairs, 0)]
    while waiting:
        part, time = waiting.pop()
        kept, parts = _held_and_parts(part, time, memory, hashed)
        found.append([row for _, row in kept])
        written += len(part) - len(kept)
        waiting.extend([(rest, time + 1) for rest in reversed(parts) if rest])
    return found, written


def _with_keys(keys, rows):
    return [(evaluate_all(keys, row), row) for row in rows]


def _with_themselves(rows):
    return [(row, row) for row in rows]


def group_rows_by(way, keys, values, rows, *, memory, hashed):
    """Return the rows of a group, worked in this way."""
    if not keys:
        return group_rows(keys, values, rows)
    if way == "sort":
        return group_rows(keys, values, sort_rows(rows, rising(keys), memory))
    lists, _ = _divided(_with_keys(keys, rows), memory, hashed)
    return [row for members in lists for row in group_rows(keys, values, members)]


def group_written(way, keys, rows, *, memory, hashed):
    """Return how many rows a group writes that is worked in this way."""
    if not keys:
        return 0
    if way == "sort":
        return sort_written(rows, memory)
    _, written = _divided(_with_keys(keys, rows), memory, hashed)
    return written


def distinct_rows_by(way, rows, *, memory, hashed):
    """Return the different rows, worked in this way."""
    if way == "sort":
        return different_rows(sort_rows(rows, (), memory))
    lists, _ = _divided(_with_themselves(rows), memory, hashed)
    return [row for members in lists for row in different_rows(members)]


def distinct_written(way, rows, *, memory, hashed):
    """Return how many rows it writes to tell the different rows in this way."""
    if way == "sort":
        return sort_written(rows, memory)
    _, written = _divided(_with_themselves(rows), memory, hashed)
    return written


def group_needs(way, keys, rows):
    """Return the least memory with which a group writes nothing."""
    if not keys:
        return 0
    return len(rows) if way == "sort" else len(different_rows([evaluate_all(keys, row) for row in rows]))


def distinct_needs(way, rows):
    """Return the least memory with which it writes nothing to tell the different rows."""
    return len(rows) if way == "sort" else len(different_rows(rows))
