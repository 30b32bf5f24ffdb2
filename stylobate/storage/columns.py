"""Encoded columns: a length, a mask that tells where None stands, and a body of the other values."""

from stylobate.storage.forms import FORMS, body_of, values_of
from stylobate.storage.writing import column_octets
from stylobate.values.order import same


def _are_alike(first, second):
    """Tell whether two values, or tuples of such, are the same; True and 1 are not."""
    if not isinstance(first, tuple) or not isinstance(second, tuple):
        return not isinstance(first, tuple) and not isinstance(second, tuple) and same(first, second)
    if len(first) != len(second):
        return False
    return all([_are_alike(one, other) for one, other in zip(first, second)])


class Encoded:
    """An encoded column. The mask is None, or a list with True for each row in which it is None."""

    def __init__(self, length, mask, body):
        self.length = length
        self.mask = None if mask is None else list(mask)
        self.body = body

    @property
    def form(self):
        """The name of its form."""
        return self.body[0]

    def decoded(self):
        """Return the list of its values."""
        present = values_of(self.body)
        if self.mask is None:
            return present
        found = []
        at = 0
        for is_none in self.mask:
            if is_none:
                found.append(None)
            else:
                found.append(present[at])
                at += 1
        return found

    def __eq__(self, other):
        if not isinstance(other, Encoded):
            return False
        return self.length == other.length and self.mask == other.mask and _are_alike(self.body, other.body)


def encode_as(form, values):
    """Return the encoded column of a list of values in a form, or None if the form is not possible."""
    present = [value for value in values if value is not None]
    body = body_of(form, present)
    if body is None:
        return None
    mask = None
    if len(present) < len(values):
        mask = [value is None for value in values]
    return Encoded(len(values), mask, body)


def column_size(encoded):
    """Return how many octets an encoded column takes in a file."""
    return len(column_octets(encoded))


def encode_column(values):
    """Return the encoded column of a list of values in the form of the least size, the first of several."""
    best = encode_as("plain", values)
    least = column_size(best)
    for form in FORMS[1:]:
        encoded = encode_as(form, values)
        size = least if encoded is None else column_size(encoded)
        if size < least:
            best = encoded
            least = size
    return best
