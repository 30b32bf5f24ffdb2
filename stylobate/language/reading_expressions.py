"""Reading expressions.

An expression that was read is a *code*: the tuple of its nodes, each operand in front of what it is an
operand of, so that it is gone through from the inside and from left to right without recursion. A node
is one of these tuples:

    ("literal", form, value)            form: integer, decimal, text, true, false, null
    ("date", text, offset)              offset of the word date
    ("parameter", number, offset)
    ("name", table, name, offset)       table: None if none is given
    ("not",), ("minus",)                one operand
    ("operator", sign)                  two operands; sign: a sign, or the word or, and, mod
    ("is null", negated)                one operand
    ("like", negated)                   two operands
    ("between", negated)                three operands
    ("in", negated, literals, offset)   one operand; literals: nodes; offset of in, or of not in front
    ("case",)                           three operands
    ("call", name, count, offset)       as many operands as count tells
"""

_OPERANDS = {
    "literal": 0, "date": 0, "parameter": 0, "name": 0, "not": 1, "minus": 1, "operator": 2,
    "is null": 1, "like": 2, "between": 3, "in": 1, "case": 3,
}
_LEVELS = {
    "or": 1, "and": 2, "=": 4, "<>": 4, "<": 4, "<=": 4, ">": 4, ">=": 4, "is": 4, "like": 4, "between": 4,
    "in": 4, "not": 4, "+": 5, "-": 5, "||": 5, "*": 6, "/": 6, "mod": 6,
}
_LEVEL_OF_NOT = 3
_LEVEL_OF_MINUS = 7
_MOST_OPERANDS = 3


def operands_of(node):
    """Return how many operands a node has."""
    return node[2] if node[0] == "call" else _OPERANDS[node[0]]


def level_of(sign):
    """Return the level of an operator, by its sign or word."""
    return _LEVELS[sign]


def _is_number(reader, ahead):
    return reader.form_here(ahead) in ("integer", "decimal")


def _read_number(reader, negative):
    form = reader.form_here()
    number = reader.take_value()
    return ("literal", form, -number if negative else number)


def _stands_literal(reader):
    """Tell whether the next tokens are a literal."""
    if reader.form_here() in ("integer", "decimal", "text"):
        return True
    if reader.sign_here("-"):
        return _is_number(reader, 1)
    if reader.word_here("date"):
        return reader.form_here(1) == "text"
    return reader.word_here("true") or reader.word_here("false") or reader.word_here("null")


def _read_literal(reader):
    """Return the node of the literal that stands here."""
    if reader.took_sign("-"):
        return _read_number(reader, True)
    if _is_number(reader, 0):
        return _read_number(reader, False)
    if reader.form_here() == "text":
        return ("literal", "text", reader.take_value())
    offset = reader.offset_here()
    word = reader.take_value().lower()
    if word == "date":
        return ("date", reader.take_value(), offset)
    return ("literal", word, None)


def _read_literals(reader):
    """Return the nodes of the literals between the brackets of in."""
    reader.need_sign("(")
    literals = []
    while not literals or reader.took_sign(","):
        if not _stands_literal(reader):
            reader.refuse("a literal is expected")
        literals.append(_read_literal(reader))
    reader.need_sign(")")
    return tuple(literals)


def _read_call(reader, name, offset, code):
    """Read the operands of a call behind its name and a bracket."""
    read_expression(reader, code)
    count = 1
    while count < _MOST_OPERANDS and reader.took_sign(","):
        read_expression(reader, code)
        count += 1
    reader.need_sign(")")
    code.append(("call", name, count, offset))


def _read_name(reader, code):
    """Read a column or a call."""
    offset = reader.offset_here()
    name = reader.need_name()
    if reader.took_sign("("):
        _read_call(reader, name, offset, code)
    elif reader.took_sign("."):
        code.append(("name", name, reader.need_name(), offset))
    else:
        code.append(("name", None, name, offset))


def _read_case(reader, code):
    reader.need_word("case")
    for word in ("when", "then", "else"):
        reader.need_word(word)
        read_expression(reader, code)
    reader.need_word("end")
    code.append(("case",))


def _read_alone(reader, code):
    """Read an expression that stands alone."""
    if _stands_literal(reader):
        code.append(_read_literal(reader))
    elif reader.form_here() == "parameter":
        offset = reader.offset_here()
        code.append(("parameter", reader.take_value(), offset))
    elif reader.word_here("case"):
        _read_case(reader, code)
    elif reader.took_sign("("):
        read_expression(reader, code)
        reader.need_sign(")")
    elif reader.name_here():
        _read_name(reader, code)
    else:
        reader.refuse("an expression is expected")


def _read_operand(reader, code, loosest):
    """Read an operand in front of all operators, with what stands in front of it; return its level."""
    turns = 0
    if loosest <= _LEVEL_OF_NOT and reader.word_here("not"):
        while reader.took_word("not"):
            turns += 1
        _read_level(reader, code, _LEVEL_OF_NOT)
        code.extend([("not",)] * turns)
        return _LEVEL_OF_NOT
    # A minus sign directly in front of a number belongs to the number.
    while reader.sign_here("-") and not _stands_literal(reader):
        reader.take_value()
        turns += 1
    _read_alone(reader, code)
    code.extend([("minus",)] * turns)
    return _LEVEL_OF_MINUS


def _operator_here(reader):
    """Return the sign or word of the operator that begins here, or None."""
    if reader.form_here() not in ("sign", "word"):
        return None
    word = reader.value_here().lower()
    if word == "not":
        follows = reader.word_here("like", 1) or reader.word_here("between", 1) or reader.word_here("in", 1)
        return word if follows else None
    return word if word in _LEVELS else None


def _read_is(reader, code):
    negated = reader.took_word("not")
    reader.need_word("null")
    code.append(("is null", negated))


def _read_level_4(reader, code, word, offset):
    """Read what stands behind an operator of level 4 and its left operand."""
    negated = word == "not"
    if negated:
        word = reader.take_value().lower()
    if word == "is":
        _read_is(reader, code)
    elif word == "in":
        code.append(("in", negated, _read_literals(reader), offset))
    elif word == "like":
        _read_level(reader, code, 5)
        code.append(("like", negated))
    elif word == "between":
        _read_level(reader, code, 5)
        reader.need_word("and")
        _read_level(reader, code, 5)
        code.append(("between", negated))
    else:
        _read_level(reader, code, 5)
        code.append(("operator", word))


def _read_level(reader, code, loosest):
    """Read an expression whose operators are of this level or a tighter one."""
    level = _read_operand(reader, code, loosest)
    word = _operator_here(reader)
    # What was read is the left operand: it must not be of a looser level than the operator.
    while word is not None and loosest <= _LEVELS[word] <= level:
        level = _LEVELS[word]
        offset = reader.offset_here()
        reader.take_value()
        if level == 4:
            _read_level_4(reader, code, word, offset)
        else:
            _read_level(reader, code, level + 1)
            code.append(("operator", word))
        word = _operator_here(reader)


def read_expression(reader, code):
    """Read an expression; put its nodes behind those of the code."""
    _read_level(reader, code, 1)


def read_code(reader):
    """Read an expression; return its code."""
    code = []
    read_expression(reader, code)
    return tuple(code)
