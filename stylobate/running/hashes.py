"""Hashes of lists of values, and the parts that they send rows to."""

from stylobate.values.order import is_integer

PARTS = 8
# Rows are written to parts at most so many times one after another.
TIMES = 3

_PRIME = 1000003
_FIRST = 17
_FACTOR = 131
_ABOVE_BOOLEANS = 3
_ABOVE_INTEGERS = 1000006
_FIRST_OF_TEXTS = 7
_FACTOR_OF_TEXTS = 31
# At each time the hash is divided by another number, so that the parts of a part differ.
_DIVISORS = (64, 8, 1)


def _text_hash(text):
    number = _FIRST_OF_TEXTS
    for sign in text:
        number = (number * _FACTOR_OF_TEXTS + ord(sign)) % _PRIME
    return _ABOVE_INTEGERS + number


def _value_hash(value):
    if value is None:
        return 0
    if is_integer(value):
        return _ABOVE_BOOLEANS + value % _PRIME
    if isinstance(value, str):
        return _text_hash(value)
    return 2 if value else 1


def hash_of(values):
    """Return the hash of a list of values."""
    number = _FIRST
    for value in values:
        number = (number * _FACTOR + _value_hash(value)) % _PRIME
    return number


def part_of(number, time):
    """Return the part of a hash at the first (0), second (1) or third (2) time."""
    return number // _DIVISORS[time] % PARTS
