"""Rows sorted with a bounded memory: in runs that are written and merged, or as the first ones alone."""

from stylobate.meaning.order import cut_rows, sorted_rows
from stylobate.values.expressions import evaluate
from stylobate.values.order import rank, row_rank


def rising(expressions):
    """Return the keys of the ascending order of the values of expressions."""
    return [(expression, False) for expression in expressions]


def _ranked(row, keys):
    """Return what a row is compared by (the ranks of its keys, and its own), and the row."""
    return ([rank(evaluate(expression, row)) for expression, _ in keys], row_rank(row), list(row))


def _is_behind(first, second, keys):
    """Tell whether a ranked row comes behind another one."""
    for at, (_, descending) in enumerate(keys):
        if first[0][at] != second[0][at]:
            return (first[0][at] < second[0][at]) == descending
    return first[1] > second[1]


def _merged(one, other, keys):
    """Return one sorted list of two sorted lists of ranked rows."""
    found = []
    at = 0
    for ranked in one:
        while at < len(other) and _is_behind(ranked, other[at], keys):
            found.append(other[at])
            at += 1
        found.append(ranked)
    found.extend(other[at:])
    return found


def merge_runs(runs, keys):
    """Return one sorted list of the rows of several sorted lists."""
    waiting = [[_ranked(row, keys) for row in run] for run in runs]
    while len(waiting) > 1:
        pairs = [waiting[at:at + 2] for at in range(0, len(waiting), 2)]
        waiting = [_merged(pair[0], pair[1], keys) if len(pair) == 2 else pair[0] for pair in pairs]
    return [row for run in waiting for _, _, row in run]


def sort_rows(rows, keys, memory):
    """Return the rows in order; more rows than the memory holds are sorted in runs."""
    runs = [sorted_rows(rows[at:at + memory], keys) for at in range(0, len(rows), memory)]
    return runs[0] if len(runs) == 1 else merge_runs(runs, keys)


def sort_written(rows, memory):
    """Return how many rows a sort writes."""
    return len(rows) if len(rows) > memory else 0


def _place_of(ranked, kept, keys):
    """Return the place at which a ranked row stands in a sorted list."""
    low = 0
    high = len(kept)
    while low < high:
        middle = (low + high) // 2
        if _is_behind(kept[middle], ranked, keys):
            high = middle
        else:
            low = middle + 1
    return low


def _first_rows(rows, keys, many):
    """Return the first rows in order; at most so many are kept while the rows are gone through."""
    kept = []
    for row in rows:
        ranked = _ranked(row, keys)
        place = _place_of(ranked, kept, keys)
        if place < many:
            if len(kept) == many:
                kept.pop()
            kept.insert(place, ranked)
    return [row for _, _, row in kept]


def _is_kept(skip, count, memory):
    """Tell whether the memory holds all rows that a top needs."""
    return count is not None and skip + count <= memory


def top_rows(rows, keys, skip, count, memory):
    """Return the rows in order, without the first ones, and at most `count` of the others."""
    if _is_kept(skip, count, memory):
        return cut_rows(_first_rows(rows, keys, skip + count), skip, count)
    return cut_rows(sort_rows(rows, keys, memory), skip, count)


def top_written(rows, skip, count, memory):
    """Return how many rows a top writes."""
    return 0 if _is_kept(skip, count, memory) else sort_written(rows, memory)
