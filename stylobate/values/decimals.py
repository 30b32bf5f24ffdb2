"""Integers within the limits, rounding, and decimals as integers of ten-thousandths."""

from stylobate.values.texts import is_digits

GREATEST = 1000000000000000
_SCALE = 10000
_MOST_DIGITS = 16


def limited(number):
    """Return the number if it is within the limits, otherwise None."""
    if -GREATEST <= number <= GREATEST:
        return number
    return None


def rounded(number, divisor):
    """Return the nearest integer to a quotient; of two, the one further from 0."""
    size = (2 * abs(number) + abs(divisor)) // (2 * abs(divisor))
    return size if (number < 0) == (divisor < 0) else -size


def quotient(number, divisor):
    """Return the quotient without its fraction."""
    size = abs(number) // abs(divisor)
    return size if (number < 0) == (divisor < 0) else -size


def decimal_text(number):
    """Return the text of a decimal, with as few digits behind the dot as it needs."""
    whole, rest = divmod(abs(number), _SCALE)
    sign = "-" if number < 0 else ""
    if rest == 0:
        return f"{sign}{whole}"
    digits = str(rest).zfill(4).rstrip("0")
    return f"{sign}{whole}.{digits}"


def read_digits(digits):
    """Return the integer that one or more digits tell, or None if it is beyond the limits."""
    # Zeros in front are taken away first: Python does not read integers of any length.
    needed = digits.lstrip("0")
    if len(needed) > _MOST_DIGITS:
        return None
    return limited(int(needed)) if needed != "" else 0


def _signed(sign, digits):
    size = read_digits(digits)
    return -size if sign and size is not None else size


def read_integer(text):
    """Return the integer that a text tells, or None."""
    sign = text.startswith("-")
    digits = text[1:] if sign else text
    if not is_digits(digits):
        return None
    return _signed(sign, digits)


def read_decimal(text):
    """Return the ten-thousandths of the decimal that a text tells, or None."""
    sign = text.startswith("-")
    size = text[1:] if sign else text
    whole, dot, part = size.partition(".")
    if not is_digits(whole):
        return None
    if dot != "" and not (is_digits(part) and len(part) <= 4):
        return None
    return _signed(sign, whole + part.ljust(4, "0"))
