"""Reading the steps that have no queries between brackets.

A step that was read is a tuple that begins with its form and the offset of its first word:

    ("where", offset, code)
    ("select", offset, items), ("extend", offset, items)
    ("group", offset, mode, items, sets, aggregates)    mode: plain, rollup, cube, sets, none
    ("distinct", offset)
    ("window", offset, codes, keys, functions)
    ("order", offset, keys, limit, skip)                limit and skip: None if missing

An item is a tuple (code, alias, offset), a key (code, descending, nulls, offset) with nulls as it was
given ("first", "last" or None), an aggregate (name, code, condition, alias, offset), and a function of a
window (name, code, frame, number, alias, offset). What is missing is None. The name of count(*) is
"rows", that of count(distinct e) is "distinct".
"""

from stylobate.language.reading_expressions import read_code

_AGGREGATES = ("count", "sum", "min", "max", "avg", "every", "some", "list", "grouping")
_FUNCTIONS = (
    "number", "rank", "dense", "tile", "sum", "count", "min", "max", "first", "last", "before", "after",
)
# These are words of the syntax: small and capital letters are alike in them.
_SYNTAX_FUNCTIONS = ("first", "last", "before", "after")
_FRAMED = ("sum", "count", "min", "max", "first", "last")


def read_codes(reader):
    """Return the codes of expressions with commas between them."""
    codes = [read_code(reader)]
    while reader.took_sign(","):
        codes.append(read_code(reader))
    return tuple(codes)


def _read_item(reader):
    offset = reader.offset_here()
    code = read_code(reader)
    alias = reader.need_name() if reader.took_word("as") else None
    return (code, alias, offset)


def _read_items(reader):
    items = [_read_item(reader)]
    while reader.took_sign(","):
        items.append(_read_item(reader))
    return tuple(items)


def read_items_step(reader, form):
    """Return the step select or extend."""
    offset = reader.need_word(form)
    return (form, offset, _read_items(reader))


def _read_set(reader):
    """Return the names of a choice of keys."""
    reader.need_sign("(")
    names = []
    if not reader.took_sign(")"):
        names.append(reader.need_name())
        while reader.took_sign(","):
            names.append(reader.need_name())
        reader.need_sign(")")
    return tuple(names)


def _read_sets(reader):
    sets = [_read_set(reader)]
    while reader.took_sign(","):
        sets.append(_read_set(reader))
    return tuple(sets)


def _read_counted(reader):
    """Return the name and the code of an aggregate that counts, behind its bracket."""
    if reader.took_sign("*"):
        return "rows", None
    if reader.took_word("distinct"):
        return "distinct", read_code(reader)
    return "count", read_code(reader)


def _read_aggregate(reader):
    offset = reader.offset_here()
    if reader.form_here() != "word" or reader.value_here() not in _AGGREGATES:
        reader.refuse("an aggregate is expected")
    name = reader.take_value()
    reader.need_sign("(")
    if name == "count":
        name, code = _read_counted(reader)
    else:
        code = read_code(reader)
    reader.need_sign(")")
    condition = read_code(reader) if reader.took_word("where") else None
    reader.need_word("as")
    return (name, code, condition, reader.need_name(), offset)


def _read_aggregates(reader):
    """Return the aggregates behind the word aggregate."""
    aggregates = [_read_aggregate(reader)]
    while reader.took_sign(","):
        aggregates.append(_read_aggregate(reader))
    return tuple(aggregates)


def read_group_step(reader):
    """Return the step group by."""
    offset = reader.need_word("group")
    reader.need_word("by")
    mode = "plain"
    for word in ("rollup", "cube"):
        if mode == "plain" and reader.took_word(word):
            mode = word
    items = _read_items(reader)
    sets = ()
    if mode == "plain" and reader.took_word("sets"):
        mode = "sets"
        sets = _read_sets(reader)
    aggregates = _read_aggregates(reader) if reader.took_word("aggregate") else ()
    return ("group", offset, mode, items, sets, aggregates)


def read_aggregate_step(reader):
    """Return the step aggregate."""
    offset = reader.need_word("aggregate")
    return ("group", offset, "none", (), (), _read_aggregates(reader))


def _read_nulls(reader):
    if not reader.took_word("nulls"):
        return None
    if reader.took_word("first"):
        return "first"
    reader.need_word("last")
    return "last"


def _read_key(reader):
    offset = reader.offset_here()
    code = read_code(reader)
    descending = reader.took_word("desc")
    if not descending:
        reader.took_word("asc")
    return (code, descending, _read_nulls(reader), offset)


def _read_keys(reader):
    """Return the keys behind the words order by."""
    reader.need_word("by")
    keys = [_read_key(reader)]
    while reader.took_sign(","):
        keys.append(_read_key(reader))
    return tuple(keys)


def _read_skip(reader):
    if reader.form_here() == "integer" and reader.value_here() == 0:
        reader.refuse("offset must be at least 1")
    return reader.need_integer()


def read_order_step(reader):
    """Return the step that orders and cuts."""
    offset = reader.offset_here()
    keys = _read_keys(reader) if reader.took_word("order") else ()
    limit = reader.need_integer() if reader.took_word("limit") else None
    skip = _read_skip(reader) if reader.took_word("offset") else None
    return ("order", offset, keys, limit, skip)


def _read_frame(reader):
    if not reader.took_word("rows"):
        return None
    ahead = reader.need_integer()
    reader.need_word("before")
    reader.need_word("and")
    behind = reader.need_integer()
    reader.need_word("after")
    return (ahead, behind)


def _read_function_name(reader):
    """Return the name of the function of a window that stands here."""
    name = reader.value_here() if reader.form_here() == "word" else ""
    if name.lower() in _SYNTAX_FUNCTIONS:
        name = name.lower()
    if name not in _FUNCTIONS:
        reader.refuse("a window function is expected")
    reader.take_value()
    return name


def _read_function(reader):
    offset = reader.offset_here()
    name = _read_function_name(reader)
    code = None
    number = None
    reader.need_sign("(")
    if name == "tile":
        number = reader.need_integer()
    elif name not in ("number", "rank", "dense"):
        code = read_code(reader)
    if name in ("before", "after"):
        number = reader.need_integer() if reader.took_sign(",") else 1
    reader.need_sign(")")
    frame = _read_frame(reader) if name in _FRAMED else None
    reader.need_word("as")
    return (name, code, frame, number, reader.need_name(), offset)


def read_window_step(reader):
    """Return the step window."""
    offset = reader.need_word("window")
    codes = ()
    keys = ()
    if reader.took_word("partition"):
        reader.need_word("by")
        codes = read_codes(reader)
    if reader.took_word("order"):
        keys = _read_keys(reader)
    reader.need_word("compute")
    functions = [_read_function(reader)]
    while reader.took_sign(","):
        functions.append(_read_function(reader))
    return ("window", offset, codes, keys, tuple(functions))
