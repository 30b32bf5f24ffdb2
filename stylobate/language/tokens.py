"""Tokens of the query language.

A token is a tuple (form, value, offset). The forms are "word", "name", "integer", "decimal",
"parameter", "text" and "sign".
"""

from stylobate.errors import QueryError
from stylobate.values.decimals import read_digits

RESERVED = (
    "with", "as", "from", "left", "full", "cross", "join", "on", "where", "not", "exists", "in", "let",
    "select", "extend", "group", "by", "rollup", "cube", "sets", "aggregate", "distinct", "union",
    "intersect", "except", "window", "partition", "compute", "order", "limit", "offset", "asc", "desc",
    "nulls", "and", "or", "is", "null", "true", "false", "like", "between", "case", "when", "then", "else",
    "end", "mod",
)

_MOST_SIGNS = 4000
_MOST_PARAMETERS = 20
DIGITS = "0123456789"
LETTERS = "abcdefghijklmnopqrstuvwxyzABCDEFGHIJKLMNOPQRSTUVWXYZ_"
_BLANKS = " \n\t"
# The longer signs come first: the longest one is taken.
_SIGNS = ("<>", "!=", "<=", ">=", "||", "(", ")", "[", "]", ",", ".", "*", "+", "-", "/", "=", "<", ">")


def _behind(text, start, signs):
    """Return where a run of these signs that begins at `start` ends."""
    at = start
    while at < len(text) and text[at] in signs:
        at += 1
    return at


def _value_of(digits, start):
    number = read_digits(digits)
    if number is None:
        raise QueryError(start, "the number is too large")
    return number


def _read_number(text, start):
    """Return an integer or a decimal that begins at `start`, and where it ends."""
    whole_end = _behind(text, start, DIGITS)
    whole = text[start:whole_end]
    if text[whole_end:whole_end + 1] == "." and _behind(text, whole_end + 1, DIGITS) > whole_end + 1:
        end = _behind(text, whole_end + 1, DIGITS + LETTERS)
        part = text[whole_end + 1:end]
        if len(part) > 4 or _behind(part, 0, DIGITS) < len(part):
            raise QueryError(start, "invalid number")
        return ("decimal", _value_of(whole + part.ljust(4, "0"), start), start), end
    if _behind(text, whole_end, LETTERS) > whole_end:
        raise QueryError(start, "invalid number")
    return ("integer", _value_of(whole, start), start), whole_end


def _read_parameter(text, start):
    end = _behind(text, start + 1, DIGITS + LETTERS)
    digits = text[start + 1:end]
    if digits == "" or _behind(digits, 0, DIGITS) < len(digits):
        raise QueryError(start, "invalid parameter")
    number = read_digits(digits)
    if number is None or not 1 <= number <= _MOST_PARAMETERS:
        raise QueryError(start, "invalid parameter")
    return ("parameter", number, start), end


def _read_marked(text, start, form):
    """Return a name or a text between marks that begins at `start`, and where it ends."""
    mark = text[start]
    end = text.find(mark, start + 1)
    while end >= 0 and text[end + 1:end + 2] == mark:
        end = text.find(mark, end + 2)
    if end < 0:
        raise QueryError(start, f"the {form} is not closed")
    for at in range(start + 1, end):
        if text[at] in "\n\t":
            raise QueryError(at, "unexpected character")
    if form == "name" and end == start + 1:
        raise QueryError(start, "the name is empty")
    return (form, text[start + 1:end].replace(mark + mark, mark), start), end + 1


def _read_sign(text, start):
    for sign in _SIGNS:
        if text.startswith(sign, start):
            return ("sign", "<>" if sign == "!=" else sign, start), start + len(sign)
    raise QueryError(start, "unexpected character")


def _read_token(text, start):
    """Return the token that begins at `start`, and where it ends."""
    first = text[start]
    if first in LETTERS:
        end = _behind(text, start, LETTERS + DIGITS)
        return ("word", text[start:end], start), end
    if first in DIGITS:
        return _read_number(text, start)
    if first == "$":
        return _read_parameter(text, start)
    if first == "\"":
        return _read_marked(text, start, "name")
    if first == "'":
        return _read_marked(text, start, "text")
    return _read_sign(text, start)


def _skip_blanks(text, start):
    """Return where the next token begins, behind blanks and comments."""
    at = _behind(text, start, _BLANKS)
    while text.startswith("--", at):
        end = text.find("\n", at)
        at = len(text) if end < 0 else _behind(text, end, _BLANKS)
    return at


def read_tokens(text):
    """Return the list of the tokens of a text."""
    if len(text) > _MOST_SIGNS:
        raise QueryError(_MOST_SIGNS, "the text is too long")
    tokens = []
    at = _skip_blanks(text, 0)
    while at < len(text):
        token, at = _read_token(text, at)
        tokens.append(token)
        at = _skip_blanks(text, at)
    return tokens
