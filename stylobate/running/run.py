"""Running physical plans over tables of groups, in batches, with a bounded memory."""

from stylobate.meaning.operators import worked_up
from stylobate.meaning.windows import window_rows
from stylobate.running.batches import (
    Batch, filter_batches, flat, into_batches, project_batches, union_batches,
)
from stylobate.running.grouping import distinct_rows_by, distinct_written, group_rows_by, group_written
from stylobate.running.hashes import hash_of
from stylobate.running.joining import join_rows_by, join_written
from stylobate.running.sorting import rising, sort_rows, sort_written, top_rows, top_written
from stylobate.storage.zones import may_hold
from stylobate.values.expressions import evaluate_all


class Counters:
    """How many groups were read and skipped, how many batches were made, how many rows were written."""

    def __init__(self):
        self.read = 0
        self.skipped = 0
        self.batches = 0
        self.written = 0

    def gather(self, other):
        """Add the numbers of another one."""
        self.read += other.read
        self.skipped += other.skipped
        self.batches += other.batches
        self.written += other.written

    def __eq__(self, other):
        if not isinstance(other, Counters):
            return False
        if self.read != other.read or self.skipped != other.skipped:
            return False
        return self.batches == other.batches and self.written == other.written


class Bounds:
    """How much is worked at once, and what is used for the hash."""

    def __init__(self, batch, memory, hashed):
        self.batch = batch
        self.memory = memory
        self.hashed = hashed


class Worked:
    """What an operator did: the batches that it gave, and its own counters.

    `inputs` are the lists of the rows of its inputs, for an operator that takes all of them.
    """

    def __init__(self, operator, inputs, batches, counters):
        self.operator = operator
        self.inputs = inputs
        self.batches = batches
        self.counters = counters


def _cut(batches, columns):
    """Return the batches with each row cut to these columns."""
    cut = [("column", column) for column in columns]
    return [Batch([evaluate_all(cut, row) for row in batch.rows], batch.selection) for batch in batches]


def _scan(operator, tables, bounds, counters):
    """Return the batches of a scan: no batch has rows of two groups."""
    _, number, condition, columns = operator
    if number >= len(tables):
        return []
    table = tables[number]
    found = []
    for group in table.groups:
        if may_hold(condition, group.zones()):
            counters.read += 1
            found.extend(filter_batches(condition, into_batches(group.live_rows(), bounds.batch)))
        else:
            counters.skipped += 1
    found.extend(filter_batches(condition, into_batches(table.buffer, bounds.batch)))
    counters.batches += len(found)
    return _cut(found, columns)


def _join(operator, inputs, bounds, counters):
    _, way, kind, width, left, right, rest, _, _ = operator
    a, b = inputs
    memory, hashed = bounds.memory, bounds.hashed
    counters.written += join_written(way, kind, left, right, a, b, memory=memory, hashed=hashed)
    return join_rows_by(way, kind, width, left, right, rest, a, b, memory=memory, hashed=hashed)


def _group(operator, rows, bounds, counters):
    _, way, keys, values, _ = operator
    memory, hashed = bounds.memory, bounds.hashed
    counters.written += group_written(way, keys, rows, memory=memory, hashed=hashed)
    return group_rows_by(way, keys, values, rows, memory=memory, hashed=hashed)


def _distinct(operator, rows, bounds, counters):
    way = operator[1]
    counters.written += distinct_written(way, rows, memory=bounds.memory, hashed=bounds.hashed)
    return distinct_rows_by(way, rows, memory=bounds.memory, hashed=bounds.hashed)


def _window(operator, rows, bounds, counters):
    _, parts, order, functions, _ = operator
    counters.written += sort_written(rows, bounds.memory)
    ordered = sort_rows(rows, rising(parts) + list(order), bounds.memory)
    return window_rows(parts, order, functions, ordered)


def _top(operator, rows, bounds, counters):
    _, order, skip, count, _ = operator
    counters.written += top_written(rows, skip, count, bounds.memory)
    return top_rows(rows, order, skip, count, bounds.memory)


def _rows_given(operator, inputs, bounds, counters):
    """Return the rows of an operator that takes all rows of its inputs."""
    form = operator[0]
    if form == "rows":
        return operator[2]
    if form == "join":
        return _join(operator, inputs, bounds, counters)
    if form == "group":
        return _group(operator, inputs[0], bounds, counters)
    if form == "distinct":
        return _distinct(operator, inputs[0], bounds, counters)
    if form == "window":
        return _window(operator, inputs[0], bounds, counters)
    return _top(operator, inputs[0], bounds, counters)


def _work(operator, batches, tables, bounds):
    """Return what an operator did, for the lists of the batches of its inputs."""
    form = operator[0]
    counters = Counters()
    inputs = []
    if form == "scan":
        return Worked(operator, inputs, _scan(operator, tables, bounds, counters), counters)
    if form == "union":
        return Worked(operator, inputs, union_batches(batches[0], batches[1]), counters)
    if form == "filter":
        made = filter_batches(operator[1], batches[0])
    elif form == "project":
        made = project_batches(operator[1], batches[0])
    else:
        inputs = [flat(given) for given in batches]
        made = into_batches(_rows_given(operator, inputs, bounds, counters), bounds.batch)
    counters.batches += len(made)
    return Worked(operator, inputs, made, counters)


def work_all(plan, tables, *, batch, memory, hashed=None):
    """Return the list of what each operator did, each ahead of its inputs."""
    bounds = Bounds(batch, memory, hash_of if hashed is None else hashed)
    found = []

    def work(operator, inputs):
        found.append(_work(operator, inputs, tables, bounds))
        return found[-1].batches

    worked_up(plan, work)
    # The operators were worked from the last one to the first one.
    return found[::-1]


def run(plan, tables, *, batch, memory, hashed=None):
    """Return the list of the batches of a physical plan, and the counters."""
    works = work_all(plan, tables, batch=batch, memory=memory, hashed=hashed)
    counters = Counters()
    for worked in works:
        counters.gather(worked.counters)
    return works[0].batches, counters


def answer(plan, tables, *, batch, memory, hashed=None):
    """Return the list of the rows of a physical plan, and the counters."""
    batches, counters = run(plan, tables, batch=batch, memory=memory, hashed=hashed)
    return flat(batches), counters
