"""Functions of windows."""

from stylobate.meaning.groups import rows_by_values
from stylobate.meaning.order import sorted_rows
from stylobate.values.decimals import limited
from stylobate.values.expressions import evaluate, evaluate_all
from stylobate.values.order import is_integer, rank, row_rank


def _peers_of(rows, keys):
    """Return for each row of a part in order where its peers begin, where they end, and how many
    groups of peers come before."""
    expressions = [expression for expression, _ in keys]
    told = [row_rank(evaluate_all(expressions, row)) for row in rows]
    firsts = [at for at in range(len(rows)) if at == 0 or told[at] != told[at - 1]]
    found = []
    for number, first in enumerate(firsts):
        behind = firsts[number + 1] if number + 1 < len(firsts) else len(rows)
        found.extend([(first, behind, number)] * (behind - first))
    return found


def _frames_of(frame, peers):
    """Return for each row of a part where its frame begins and where it ends.

    Neither of them ever goes back from one row to the next.
    """
    if frame is None:
        return [(0, behind) for _, behind, _ in peers]
    ahead, further = frame
    found = []
    for at in range(len(peers)):
        behind = min(max(at + further + 1, 0), len(peers))
        found.append((min(max(at - ahead, 0), behind), behind))
    return found


def _running(numbers):
    """Return the sums of no number, of the first one, of the first two, and so on."""
    found = [0]
    for number in numbers:
        found.append(found[-1] + number)
    return found


def _counts(values, frames):
    known = _running([0 if value is None else 1 for value in values])
    return [known[behind] - known[first] for first, behind in frames]


def _sums(values, frames):
    many = _running([1 if is_integer(value) else 0 for value in values])
    totals = _running([value if is_integer(value) else 0 for value in values])
    found = []
    for first, behind in frames:
        total = totals[behind] - totals[first]
        found.append(limited(total) if many[behind] > many[first] else None)
    return found


def _best(values, frames, descending):
    """Return for each frame its first value in the order (the last one, if descending) but None."""
    ranks = [rank(value) for value in values]
    # The places that can still be the best one of a frame: each is better than those behind it.
    waiting = []
    head = 0
    entered = 0
    found = []
    for first, behind in frames:
        for place in range(entered, behind):
            if values[place] is None:
                continue
            while len(waiting) > head and (ranks[place] < ranks[waiting[-1]]) != descending:
                waiting.pop()
            waiting.append(place)
        entered = behind
        while head < len(waiting) and waiting[head] < first:
            head += 1
        found.append(values[waiting[head]] if head < len(waiting) else None)
    return found


def _least(values, frames):
    return _best(values, frames, False)


def _greatest(values, frames):
    return _best(values, frames, True)


def _firsts(values, frames):
    return [values[first] if first < behind else None for first, behind in frames]


def _lasts(values, frames):
    return [values[behind - 1] if first < behind else None for first, behind in frames]


_OVER_FRAMES = {
    "sum": _sums,
    "count": _counts,
    "min": _least,
    "max": _greatest,
    "first": _firsts,
    "last": _lasts,
}


def _tiles(many, tiles):
    """Return the numbers of the tiles of so many rows."""
    if tiles == 0:
        return [None] * many
    length, longer = divmod(many, tiles)
    # So many rows are in the tiles that are longer by one.
    first = longer * (length + 1)
    found = []
    for at in range(many):
        if at < first:
            found.append(at // (length + 1) + 1)
        else:
            found.append(longer + (at - first) // length + 1)
    return found


def _moved_values(values, distance):
    """Return for each place the value so many places behind it, or None."""
    places = [at + distance for at in range(len(values))]
    return [values[place] if 0 <= place < len(values) else None for place in places]


def _function_values(function, rows, peers):
    """Return the values of a function for the rows of a part in order."""
    name, expression, frame, number = function
    if name == "number":
        return [at + 1 for at in range(len(rows))]
    if name == "rank":
        return [first + 1 for first, _, _ in peers]
    if name == "dense":
        return [before_it + 1 for _, _, before_it in peers]
    if name == "tile":
        return _tiles(len(rows), number)
    values = [evaluate(expression, row) for row in rows]
    if name == "before":
        return _moved_values(values, -number)
    if name == "after":
        return _moved_values(values, number)
    action = _OVER_FRAMES[name]
    return action(values, _frames_of(frame, peers))


def window_rows(parts, keys, functions, rows):
    """Return the rows with the values of the functions behind, part by part, each part in order."""
    found = []
    for _, members in rows_by_values(parts, rows):
        ordered = sorted_rows(members, keys)
        peers = _peers_of(ordered, keys)
        columns = [_function_values(function, ordered, peers) for function in functions]
        for at, row in enumerate(ordered):
            found.append(row + [column[at] for column in columns])
    return found
