"""The six forms of bodies: how the present values of a column are kept."""

from stylobate.storage.packing import pack, unpack, width_for
from stylobate.values.order import is_integer, rank, same

FORMS = ("plain", "constant", "runs", "dictionary", "packed", "deltas")


def _plain(present):
    return ("plain", tuple(present))


def _constant(present):
    if not present or not all([same(value, present[0]) for value in present]):
        return None
    return ("constant", present[0], len(present))


def _runs(present):
    pairs = []
    for value in present:
        if pairs and same(pairs[-1][0], value):
            pairs[-1] = (value, pairs[-1][1] + 1)
        else:
            pairs.append((value, 1))
    return ("runs", tuple(pairs))


def _dictionary(present):
    places = {}
    words = []
    for value in present:
        key = rank(value)
        if key not in places:
            places[key] = len(words)
            words.append(value)
    width = width_for(len(words) - 1) if words else 0
    bits = pack([places[rank(value)] for value in present], width)
    return ("dictionary", tuple(words), len(present), width, bits)


def _packed_above(least, numbers):
    """Return the width and the bits of how much each number is more than the least."""
    rests = [number - least for number in numbers]
    width = width_for(max(rests, default=0))
    return width, pack(rests, width)


def _are_integers(present):
    return all([is_integer(value) for value in present])


def _packed(present):
    if not _are_integers(present):
        return None
    least = min(present, default=0)
    width, bits = _packed_above(least, present)
    return ("packed", least, len(present), width, bits)


def _deltas(present):
    if not present or not _are_integers(present):
        return None
    steps = [present[at] - present[at - 1] for at in range(1, len(present))]
    least = min(steps, default=0)
    width, bits = _packed_above(least, steps)
    return ("deltas", present[0], least, len(present), width, bits)


_BODIES = {
    "plain": _plain,
    "constant": _constant,
    "runs": _runs,
    "dictionary": _dictionary,
    "packed": _packed,
    "deltas": _deltas,
}


def body_of(form, present):
    """Return the body of a form for a list of values other than None, or None if it is not possible."""
    if form not in _BODIES:
        return None
    action = _BODIES[form]
    return action(present)


def _runs_values(pairs):
    found = []
    for value, count in pairs:
        found.extend([value] * count)
    return found


def _deltas_values(first, least, steps):
    found = [first]
    for step in steps:
        found.append(found[-1] + least + step)
    return found


def values_of(body):
    """Return the list of the present values of a body."""
    form = body[0]
    if form == "plain":
        return list(body[1])
    if form == "constant":
        return [body[1]] * body[2]
    if form == "runs":
        return _runs_values(body[1])
    if form == "dictionary":
        _, words, count, width, bits = body
        return [words[index] for index in unpack(bits, width, count)]
    if form == "packed":
        _, least, count, width, bits = body
        return [least + rest for rest in unpack(bits, width, count)]
    _, first, least, count, width, bits = body
    return _deltas_values(first, least, unpack(bits, width, count - 1))
