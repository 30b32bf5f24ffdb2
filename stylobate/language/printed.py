"""Tokens of expressions, as they are written."""

from stylobate.language.reader import is_reserved
from stylobate.language.reading_expressions import level_of, operands_of
from stylobate.language.tokens import DIGITS, LETTERS
from stylobate.values.decimals import decimal_text

_NAME_MARK = "\""
_TEXT_MARK = "'"
_ALONE = 8
_BEHIND_MINUS = 7
_BEHIND_NOT = 3
_COMPARISON = 4


def _is_word(name):
    if name[0] not in LETTERS:
        return False
    return all([sign in LETTERS or sign in DIGITS for sign in name])


def name_token(name):
    """Return the token of a name: as it is, or between quotation marks."""
    if _is_word(name) and not is_reserved(name):
        return name
    return _NAME_MARK + name.replace(_NAME_MARK, _NAME_MARK + _NAME_MARK) + _NAME_MARK


def _text_token(text):
    return _TEXT_MARK + text.replace(_TEXT_MARK, _TEXT_MARK + _TEXT_MARK) + _TEXT_MARK


def _number_token(form, size):
    if form == "integer":
        return str(size)
    text = decimal_text(size)
    return text if "." in text else text + ".0"


def _literal_tokens(node):
    if node[0] == "date":
        return ["date", _text_token(node[1])]
    _, form, value = node
    if form == "text":
        return [_text_token(value)]
    if form in ("integer", "decimal"):
        sign = ["-"] if value < 0 else []
        return sign + [_number_token(form, abs(value))]
    return [form]


def with_commas(lists):
    """Return the tokens of several lists, with commas between them."""
    tokens = []
    for at, more in enumerate(lists):
        if at > 0:
            tokens.append(",")
        tokens.extend(more)
    return tokens


class Piece:
    """The tokens of an expression, its level, and whether it is a number without a minus sign."""

    def __init__(self, tokens, level=_ALONE, bare=False):
        self.tokens = tokens
        self.level = level
        self.bare = bare

    def within(self, loosest):
        """Return the tokens, between brackets if the level is looser than this one."""
        if self.level < loosest:
            return ["("] + self.tokens + [")"]
        return self.tokens


def _leaf(node):
    if node[0] == "parameter":
        return Piece([f"${node[1]}"])
    if node[0] == "name":
        _, table, name, _ = node
        front = [] if table is None else [name_token(table), "."]
        return Piece(front + [name_token(name)])
    tokens = _literal_tokens(node)
    bare = node[0] == "literal" and node[1] in ("integer", "decimal") and tokens[0] != "-"
    return Piece(tokens, bare=bare)


def _negation(negated):
    return ["not"] if negated else []


def _comparison(node, pieces):
    """Return the piece of is, like, between or in."""
    form, negated = node[0], node[1]
    front = pieces[0].within(_COMPARISON)
    if form == "is null":
        return Piece(front + ["is"] + _negation(negated) + ["null"], _COMPARISON)
    tokens = front + _negation(negated) + [form]
    if form == "in":
        literals = with_commas([_literal_tokens(literal) for literal in node[2]])
        return Piece(tokens + ["("] + literals + [")"], _COMPARISON)
    tokens = tokens + pieces[1].within(_COMPARISON + 1)
    if form == "between":
        tokens = tokens + ["and"] + pieces[2].within(_COMPARISON + 1)
    return Piece(tokens, _COMPARISON)


def _piece_of(node, pieces):
    """Return the piece of a node with these operands."""
    form = node[0]
    if form == "not":
        return Piece(["not"] + pieces[0].within(_BEHIND_NOT), _BEHIND_NOT)
    if form == "minus":
        loosest = _ALONE + 1 if pieces[0].bare else _BEHIND_MINUS
        return Piece(["-"] + pieces[0].within(loosest), _BEHIND_MINUS)
    if form == "operator":
        level = level_of(node[1])
        return Piece(pieces[0].within(level) + [node[1]] + pieces[1].within(level + 1), level)
    if form in ("is null", "like", "between", "in"):
        return _comparison(node, pieces)
    if form == "case":
        condition, first, second = [piece.tokens for piece in pieces]
        return Piece(["case", "when"] + condition + ["then"] + first + ["else"] + second + ["end"])
    if form == "call":
        return Piece([name_token(node[1]), "("] + with_commas([piece.tokens for piece in pieces]) + [")"])
    return _leaf(node)


def code_tokens(code):
    """Return the tokens of an expression, with brackets only where they are needed."""
    waiting = []
    for node in code:
        first = len(waiting) - operands_of(node)
        piece = _piece_of(node, waiting[first:])
        del waiting[first:]
        waiting.append(piece)
    return waiting[0].tokens
