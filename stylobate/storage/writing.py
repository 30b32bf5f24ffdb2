"""Numbers, values and encoded columns as octets, and the checksum of octets."""

from stylobate.storage.forms import FORMS
from stylobate.storage.packing import pack

_ALL_BITS = 4294967295
# The polynomial 0xEDB88320 of the CRC-32.
_POLYNOMIAL = 3988292384


def number_octets(number):
    """Return the octets of an integer not less than 0: seven bits in each one, the lowest first."""
    found = []
    while number >= 128:
        found.append((number & 127) | 128)
        number = number >> 7
    found.append(number)
    return found


def integer_octets(integer):
    """Return the octets of an integer."""
    return number_octets(2 * integer if integer >= 0 else -2 * integer - 1)


def text_octets(text):
    """Return the octets of a text: the number of its signs, and their codes."""
    return number_octets(len(text)) + [ord(sign) for sign in text]


def value_octets(value):
    """Return the octets of a value."""
    if value is None:
        return [0]
    if isinstance(value, bool):
        return [2 if value else 1]
    if isinstance(value, int):
        return [3] + integer_octets(value)
    return [4] + text_octets(value)


def values_octets(values):
    """Return the octets of several values, one behind the other."""
    found = []
    for value in values:
        found.extend(value_octets(value))
    return found


def bits_octets(bits, count):
    """Return the octets of the `count` lowest bits of an integer, the lowest first."""
    return [(bits >> (8 * at)) & 255 for at in range((count + 7) // 8)]


def marks_octets(marks):
    """Return the octets of a list of marks: a bit for each one."""
    return bits_octets(pack([1 if mark else 0 for mark in marks], 1), len(marks))


def _runs_octets(pairs):
    found = number_octets(len(pairs))
    for value, count in pairs:
        found.extend(value_octets(value) + number_octets(count))
    return found


def _packed_octets(count, many, width, bits):
    """Return the octets of a count, a width, and so many packed numbers."""
    return number_octets(count) + [width] + bits_octets(bits, many * width)


def _body_octets(body):
    form = body[0]
    if form == "plain":
        return number_octets(len(body[1])) + values_octets(body[1])
    if form == "constant":
        return value_octets(body[1]) + number_octets(body[2])
    if form == "runs":
        return _runs_octets(body[1])
    if form == "dictionary":
        _, words, count, width, bits = body
        return number_octets(len(words)) + values_octets(words) + _packed_octets(count, count, width, bits)
    if form == "packed":
        _, least, count, width, bits = body
        return integer_octets(least) + _packed_octets(count, count, width, bits)
    _, first, least, count, width, bits = body
    return integer_octets(first) + integer_octets(least) + _packed_octets(count, count - 1, width, bits)


def column_octets(encoded):
    """Return the octets of an encoded column."""
    found = [FORMS.index(encoded.body[0]), 0 if encoded.mask is None else 1]
    found.extend(number_octets(encoded.length))
    if encoded.mask is not None:
        found.extend(marks_octets(encoded.mask))
    found.extend(_body_octets(encoded.body))
    return found


def _checksum_of_octet(octet):
    number = octet
    for _ in range(8):
        number = (number >> 1) ^ (_POLYNOMIAL if number & 1 == 1 else 0)
    return number


def checksum(octets):
    """Return the CRC-32 of a list of octets."""
    table = [_checksum_of_octet(octet) for octet in range(256)]
    number = _ALL_BITS
    for octet in octets:
        number = (number >> 8) ^ table[(number ^ octet) & 255]
    return number ^ _ALL_BITS
