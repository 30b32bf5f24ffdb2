"""Reading queries.

A query that was read is a tuple (names, offset, source, steps): the pairs (name, query) of its with, and
the offset of its word from. A source is a tuple (table, query, alias, offset), with None for what is
missing. Beside the steps without queries there are these:

    ("join", offset, kind, source, code)            kind: inner, left, full, cross
    ("exists", offset, negated, source, code)
    ("in", offset, negated, codes, query)
    ("let", offset, name, query)
    ("union", offset, query), ("intersect", offset, query), ("except", offset, query)
"""

from stylobate.language.reader import Reader
from stylobate.language.reading_expressions import read_code
from stylobate.language.reading_steps import (
    read_aggregate_step, read_codes, read_group_step, read_items_step, read_order_step, read_window_step,
)


def _read_bracketed(reader):
    """Return the query between the brackets that must stand here."""
    reader.need_sign("(")
    query = _read_query(reader)
    reader.need_sign(")")
    return query


def _read_source(reader):
    offset = reader.offset_here()
    if reader.sign_here("("):
        query = _read_bracketed(reader)
        reader.need_word("as")
        return (None, query, reader.need_name(), offset)
    table = reader.need_name()
    alias = reader.need_name() if reader.took_word("as") else None
    return (table, None, alias, offset)


def _read_join(reader, offset, kind):
    """Return the join whose first word stands here, where kind is that word or inner."""
    if kind != "inner":
        reader.take_value()
    reader.need_word("join")
    source = _read_source(reader)
    if kind == "cross":
        return ("join", offset, kind, source, None)
    reader.need_word("on")
    return ("join", offset, kind, source, read_code(reader))


def _read_exists(reader, offset):
    negated = reader.took_word("not")
    reader.need_word("exists")
    source = _read_source(reader)
    reader.need_word("on")
    return ("exists", offset, negated, source, read_code(reader))


def _read_in(reader, offset):
    reader.need_sign("[")
    codes = read_codes(reader)
    reader.need_sign("]")
    negated = reader.took_word("not")
    reader.need_word("in")
    return ("in", offset, negated, codes, _read_bracketed(reader))


def _read_where(reader, offset):
    reader.need_word("where")
    if reader.word_here("exists") or (reader.word_here("not") and reader.word_here("exists", 1)):
        return _read_exists(reader, offset)
    if reader.sign_here("["):
        return _read_in(reader, offset)
    return ("where", offset, read_code(reader))


def _read_let(reader, offset):
    reader.need_word("let")
    name = reader.need_name()
    reader.need_sign("=")
    return ("let", offset, name, _read_bracketed(reader))


def _read_other_step(reader, word):
    """Return the step that begins with this word and has no query between brackets."""
    if word in ("select", "extend"):
        return read_items_step(reader, word)
    if word == "group":
        return read_group_step(reader)
    if word == "aggregate":
        return read_aggregate_step(reader)
    if word == "window":
        return read_window_step(reader)
    if word in ("order", "limit", "offset"):
        return read_order_step(reader)
    return None


def _read_step(reader):
    """Return the step that stands here, or None."""
    if reader.form_here() != "word":
        return None
    offset = reader.offset_here()
    word = reader.value_here().lower()
    if word in ("join", "left", "full", "cross"):
        return _read_join(reader, offset, "inner" if word == "join" else word)
    if word == "where":
        return _read_where(reader, offset)
    if word == "let":
        return _read_let(reader, offset)
    if word in ("union", "intersect", "except"):
        reader.take_value()
        return (word, offset, _read_bracketed(reader))
    if word == "distinct":
        reader.take_value()
        return (word, offset)
    return _read_other_step(reader, word)


def _read_names(reader):
    """Return the pairs of a name and a query of the words with."""
    names = []
    while reader.took_word("with"):
        name = reader.need_name()
        reader.need_word("as")
        names.append((name, _read_bracketed(reader)))
    return tuple(names)


def _read_query(reader):
    names = _read_names(reader)
    offset = reader.need_word("from")
    source = _read_source(reader)
    steps = []
    step = _read_step(reader)
    while step is not None:
        steps.append(step)
        step = _read_step(reader)
    return (names, offset, source, tuple(steps))


def read_query(text):
    """Return the query of a text."""
    reader = Reader(text)
    query = _read_query(reader)
    reader.need_end("a step is expected")
    return query
