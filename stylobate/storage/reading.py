"""Octets that are read one after another: numbers, values, encoded columns, groups."""

from stylobate.errors import InvalidFile
from stylobate.storage.columns import Encoded
from stylobate.storage.forms import FORMS
from stylobate.storage.groups import Group
from stylobate.storage.packing import unpack

# The signs with the codes 32 to 36, and those with the codes 38 to 126: texts have no others.
_SIGNS = " !\"#$"
_MORE_SIGNS = "&'()*+,-./0123456789:;<=>?@ABCDEFGHIJKLMNOPQRSTUVWXYZ[\\]^_`abcdefghijklmnopqrstuvwxyz{|}~"
_FIRST_CODE = 32
_FIRST_OF_MORE = 38
_MOST_OCTETS = 10


def _sign_of(code):
    """Return the sign with a code."""
    if _FIRST_CODE <= code < _FIRST_CODE + len(_SIGNS):
        return _SIGNS[code - _FIRST_CODE]
    if _FIRST_OF_MORE <= code < _FIRST_OF_MORE + len(_MORE_SIGNS):
        return _MORE_SIGNS[code - _FIRST_OF_MORE]
    raise InvalidFile("a code is that of no sign")


class Source:
    """Octets, and how many of them were read."""

    def __init__(self, octets):
        self.octets = list(octets)
        self.at = 0

    def left(self):
        """Return how many octets were not yet read."""
        return len(self.octets) - self.at

    def next_octet(self):
        """Return the next octet."""
        if self.left() == 0:
            raise InvalidFile("the octets end too early")
        self.at += 1
        return self.octets[self.at - 1]

    def next_below(self, bound):
        """Return the next octet, which is less than a bound."""
        octet = self.next_octet()
        if octet >= bound:
            raise InvalidFile("an octet is too large")
        return octet

    def next_number(self):
        """Return the next number."""
        number = 0
        for at in range(_MOST_OCTETS):
            octet = self.next_octet()
            number += (octet & 127) << (7 * at)
            if octet < 128:
                if octet == 0 and at > 0:
                    raise InvalidFile("a number has a zero too many")
                return number
        raise InvalidFile("a number is too long")

    def next_count(self):
        """Return the next number, which counts things that take at least one octet each."""
        number = self.next_number()
        if number > self.left():
            raise InvalidFile("there are fewer octets than things")
        return number

    def next_integer(self):
        """Return the next integer."""
        number = self.next_number()
        return number // 2 if number % 2 == 0 else -((number + 1) // 2)

    def next_text(self):
        """Return the next text."""
        signs = []
        for _ in range(self.next_count()):
            signs.append(_sign_of(self.next_octet()))
        return "".join(signs)

    def next_value(self):
        """Return the next value."""
        form = self.next_below(5)
        if form == 0:
            return None
        if form < 3:
            return form == 2
        return self.next_integer() if form == 3 else self.next_text()

    def next_values(self, many):
        """Return the tuple of the next values."""
        found = []
        for _ in range(many):
            found.append(self.next_value())
        return tuple(found)

    def next_bits(self, many):
        """Return the integer of so many bits; what is left of the last octet is 0."""
        octets = (many + 7) // 8
        if octets > self.left():
            raise InvalidFile("the octets end too early")
        behind = self.at + octets
        bits = 0
        for octet in reversed(self.octets[self.at:behind]):
            bits = (bits << 8) | octet
        if bits >> many != 0:
            raise InvalidFile("there are more bits than there may be")
        self.at = behind
        return bits

    def next_marks(self, many):
        """Return the list of so many marks."""
        bits = self.next_bits(many)
        return [mark == 1 for mark in unpack(bits, 1, many)]


def _next_runs(source):
    pairs = []
    for _ in range(source.next_count()):
        value = source.next_value()
        pairs.append((value, source.next_number()))
    return tuple(pairs)


def _next_body(source, form):
    """Return the next body, of a form by its name."""
    if form == "plain":
        return (form, source.next_values(source.next_count()))
    if form == "constant":
        value = source.next_value()
        return (form, value, source.next_number())
    if form == "runs":
        return (form, _next_runs(source))
    if form == "dictionary":
        start = (form, source.next_values(source.next_count()))
    elif form == "packed":
        start = (form, source.next_integer())
    else:
        first = source.next_integer()
        start = (form, first, source.next_integer())
    count = source.next_number()
    width = source.next_octet()
    many = count - 1 if form == "deltas" else count
    return start + (count, width, source.next_bits(max(many, 0) * width))


def next_column(source):
    """Return the next encoded column; whether its parts belong together is not looked at."""
    form = FORMS[source.next_below(len(FORMS))]
    is_masked = source.next_below(2) == 1
    length = source.next_number()
    mask = source.next_marks(length) if is_masked else None
    return Encoded(length, mask, _next_body(source, form))


def next_group(source, width):
    """Return the next group of so many columns, likewise."""
    many = source.next_number()
    dead = source.next_marks(many)
    columns = []
    for _ in range(width):
        columns.append(next_column(source))
    return Group(columns, many, dead)
