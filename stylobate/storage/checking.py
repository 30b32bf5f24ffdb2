"""Whether groups and columns are in order: their parts belong together, and their values fit.

Counts are compared before a list is made of them: they can be huge.
"""

from stylobate.storage.forms import values_of
from stylobate.storage.packing import unpack
from stylobate.values.order import is_integer
from stylobate.values.texts import MOST

_GREATEST = 4000000000000000
_MOST_WIDTH = 64


def _packed_fits(count, width, bits):
    """Tell whether so many packed numbers of a width can stand in these bits."""
    return width <= _MOST_WIDTH and 0 <= bits and bits.bit_length() <= count * width


def _dictionary_fits(body, present):
    _, words, count, width, bits = body
    if len(words) > present or count != present or not _packed_fits(count, width, bits):
        return False
    return all([index < len(words) for index in unpack(bits, width, count)])


def _runs_fit(pairs, present):
    if not all([count >= 1 for _, count in pairs]):
        return False
    return sum([count for _, count in pairs]) == present


def _body_fits(body, present):
    """Tell whether a body keeps so many values, and its parts belong together."""
    form = body[0]
    if form == "plain":
        return len(body[1]) == present
    if form == "constant":
        return body[2] == present and present >= 1
    if form == "runs":
        return _runs_fit(body[1], present)
    if form == "dictionary":
        return _dictionary_fits(body, present)
    if form == "packed":
        _, _, count, width, bits = body
        return count == present and _packed_fits(count, width, bits)
    _, _, _, count, width, bits = body
    return count == present and present >= 1 and _packed_fits(count - 1, width, bits)


def _helpers_in(body):
    """Return the list of what stands in a body without being a present value: words, leasts."""
    form = body[0]
    if form == "dictionary":
        return list(body[1])
    if form == "packed":
        return [body[1]]
    return [body[2]] if form == "deltas" else []


def _can_stand(value):
    """Tell whether a value can stand in a body."""
    if is_integer(value):
        return -_GREATEST <= value <= _GREATEST
    return not isinstance(value, str) or len(value) <= MOST


def _column_in_order(encoded, many, column):
    """Tell whether an encoded column of a group of so many rows is in order."""
    mask = encoded.mask
    if encoded.length != many or (mask is not None and len(mask) != many):
        return False
    nulls = 0 if mask is None else len([mark for mark in mask if mark])
    if not _body_fits(encoded.body, many - nulls):
        return False
    # The bounds of columns are narrower, so only what is no present value is held against these.
    if not all([_can_stand(value) for value in _helpers_in(encoded.body)]):
        return False
    present = values_of(encoded.body)
    if not all([value is not None and column.takes(value) for value in present]):
        return False
    return nulls == 0 or column.takes(None)


def group_in_order(group, columns, size):
    """Tell whether a group of a table with these columns and this group size is in order."""
    if not 1 <= group.many <= size or len(group.dead) != group.many or len(group.columns) != len(columns):
        return False
    pairs = list(zip(group.columns, columns))
    return all([_column_in_order(encoded, group.many, column) for encoded, column in pairs])
