"""How deep brackets, the words case and not, and minus signs may be nested."""

from stylobate.errors import QueryError

_MOST_OPEN = 20
_MOST_IN_A_ROW = 20


def _opens(token):
    form, value, _ = token
    if form == "sign":
        return value in ("(", "[")
    return form == "word" and value.lower() == "case"


def _closes(token):
    form, value, _ = token
    if form == "sign":
        return value in (")", "]")
    return form == "word" and value.lower() == "end"


def _turns(token):
    """Tell whether a token is a minus sign or a word not."""
    form, value, _ = token
    if form == "sign":
        return value == "-"
    return form == "word" and value.lower() == "not"


def check_nesting(tokens):
    """Raise the fault of the first token that is nested too deeply, if there is one."""
    depth = 0
    run = 0
    for token in tokens:
        if _opens(token):
            depth += 1
        elif _closes(token):
            depth = max(depth - 1, 0)
        run = run + 1 if _turns(token) else 0
        if depth > _MOST_OPEN or run > _MOST_IN_A_ROW:
            raise QueryError(token[2], "nested too deeply")
