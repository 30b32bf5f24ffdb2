"""Operations on three values."""

from stylobate.values.order import is_integer
from stylobate.values.texts import MOST, pieces


def _part(text, start, count):
    if not (isinstance(text, str) and is_integer(start) and is_integer(count)):
        return None
    if count < 0:
        return None
    first = max(start - 1, 0)
    behind = max(start - 1 + count, 0)
    return text[first:behind]


def _split(text, separator, number):
    if not (isinstance(text, str) and isinstance(separator, str) and is_integer(number)):
        return None
    found = pieces(text, separator)
    if not 1 <= number <= len(found):
        return None
    return found[number - 1]


def _replace(text, old, new):
    if not (isinstance(text, str) and isinstance(old, str) and isinstance(new, str)):
        return None
    found = pieces(text, old)
    # The length is told ahead: the text itself could be huge.
    length = sum([len(piece) for piece in found]) + (len(found) - 1) * len(new)
    if length > MOST:
        return None
    return text if old == "" else text.replace(old, new)


def _pad(text, sign, length):
    if not (isinstance(text, str) and isinstance(sign, str) and is_integer(length)):
        return None
    if len(text) >= length or sign == "":
        return text
    if length > MOST:
        return None
    return sign[0] * (length - len(text)) + text


_OF_THREE = {
    "part": _part,
    "split": _split,
    "replace": _replace,
    "pad": _pad,
}


def value_of_three(name, first, second, third):
    """Return the value of an operation on three values."""
    action = _OF_THREE[name]
    return action(first, second, third)
