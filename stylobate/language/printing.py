"""Texts of queries and functions in their one form."""

from stylobate.language.printed import code_tokens, name_token, with_commas
from stylobate.language.reading_functions import read_function
from stylobate.language.reading_queries import read_query

_NO_BLANK_BEHIND = ("(", "[", ".")
_NO_BLANK_BEFORE = (")", "]", ",", ".")


def _written(tokens):
    """Return the text of tokens, with one space between two where one stands."""
    parts = []
    for at, token in enumerate(tokens):
        if at > 0 and tokens[at - 1] not in _NO_BLANK_BEHIND and token not in _NO_BLANK_BEFORE:
            parts.append(" ")
        parts.append(token)
    return "".join(parts)


def _alias_tokens(alias):
    return [] if alias is None else ["as", name_token(alias)]


def _item_tokens(item):
    code, alias, _ = item
    return code_tokens(code) + _alias_tokens(alias)


def _items_tokens(items):
    return with_commas([_item_tokens(item) for item in items])


def _codes_tokens(codes):
    return with_commas([code_tokens(code) for code in codes])


def _key_tokens(key):
    code, descending, nulls, _ = key
    tokens = code_tokens(code)
    if descending:
        tokens = tokens + ["desc"]
    return tokens if nulls is None else tokens + ["nulls", nulls]


def _keys_tokens(keys):
    if not keys:
        return []
    return ["order", "by"] + with_commas([_key_tokens(key) for key in keys])


def _aggregate_tokens(aggregate):
    name, code, condition, alias, _ = aggregate
    if name == "rows":
        tokens = ["count", "(", "*", ")"]
    elif name == "distinct":
        tokens = ["count", "(", "distinct"] + code_tokens(code) + [")"]
    else:
        tokens = [name, "("] + code_tokens(code) + [")"]
    if condition is not None:
        tokens = tokens + ["where"] + code_tokens(condition)
    return tokens + _alias_tokens(alias)


def _set_tokens(names):
    return ["("] + with_commas([[name_token(name)] for name in names]) + [")"]


def _group_tokens(step):
    _, _, mode, items, sets, aggregates = step
    tokens = []
    if mode != "none":
        tokens = ["group", "by"]
        if mode in ("rollup", "cube"):
            tokens.append(mode)
        tokens = tokens + _items_tokens(items)
    if mode == "sets":
        tokens = tokens + ["sets"] + with_commas([_set_tokens(names) for names in sets])
    if aggregates:
        told = with_commas([_aggregate_tokens(aggregate) for aggregate in aggregates])
        tokens = tokens + ["aggregate"] + told
    return tokens


def _function_tokens(function):
    name, code, frame, number, alias, _ = function
    tokens = [name, "("]
    if code is not None:
        tokens = tokens + code_tokens(code)
    if name == "tile":
        tokens.append(str(number))
    elif number is not None and number != 1:
        tokens = tokens + [",", str(number)]
    tokens.append(")")
    if frame is not None:
        tokens = tokens + ["rows", str(frame[0]), "before", "and", str(frame[1]), "after"]
    return tokens + _alias_tokens(alias)


def _window_tokens(step):
    _, _, codes, keys, functions = step
    tokens = ["window"]
    if codes:
        tokens = tokens + ["partition", "by"] + _codes_tokens(codes)
    told = with_commas([_function_tokens(function) for function in functions])
    return tokens + _keys_tokens(keys) + ["compute"] + told


def _order_tokens(step):
    _, _, keys, limit, skip = step
    tokens = _keys_tokens(keys)
    if limit is not None:
        tokens = tokens + ["limit", str(limit)]
    return tokens if skip is None else tokens + ["offset", str(skip)]


def _bracketed(query):
    return ["("] + _query_tokens(query) + [")"]


def _source_tokens(source):
    table, query, alias, _ = source
    tokens = [name_token(table)] if query is None else _bracketed(query)
    return tokens + _alias_tokens(alias)


def _join_tokens(step):
    _, _, kind, source, code = step
    front = ["join"] if kind == "inner" else [kind, "join"]
    tokens = front + _source_tokens(source)
    return tokens if code is None else tokens + ["on"] + code_tokens(code)


def _where_tokens(step):
    """Return the tokens of a where with exists or in."""
    form, _, negated, first, second = step
    negation = ["not"] if negated else []
    if form == "exists":
        return ["where"] + negation + ["exists"] + _source_tokens(first) + ["on"] + code_tokens(second)
    return ["where", "["] + _codes_tokens(first) + ["]"] + negation + ["in"] + _bracketed(second)


def _step_tokens(step):
    form = step[0]
    if form == "join":
        return _join_tokens(step)
    if form in ("exists", "in"):
        return _where_tokens(step)
    if form == "where":
        return ["where"] + code_tokens(step[2])
    if form == "let":
        return ["let", name_token(step[2]), "="] + _bracketed(step[3])
    if form in ("select", "extend"):
        return [form] + _items_tokens(step[2])
    if form in ("union", "intersect", "except"):
        return [form] + _bracketed(step[2])
    if form == "group":
        return _group_tokens(step)
    if form == "window":
        return _window_tokens(step)
    return _order_tokens(step) if form == "order" else [form]


def _query_tokens(query):
    names, _, source, steps = query
    tokens = []
    for name, inner in names:
        tokens = tokens + ["with", name_token(name), "as"] + _bracketed(inner)
    tokens = tokens + ["from"] + _source_tokens(source)
    for step in steps:
        tokens.extend(_step_tokens(step))
    return tokens


def format_query(text):
    """Return the text of a query in its one form."""
    return _written(_query_tokens(read_query(text)))


def format_function(text):
    """Return the text of a function in its one form."""
    name, parameters, code = read_function(text)
    told = with_commas([[name_token(parameter)] for parameter in parameters])
    return _written([name_token(name), "("] + told + [")", "="] + code_tokens(code))
