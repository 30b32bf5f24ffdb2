"""Binding groups: one for each choice of keys."""

from stylobate.errors import QueryError
from stylobate.language.binding import bind_truth
from stylobate.language.items import bind_aggregate, bind_items, check_name, result_column
from stylobate.language.relations import Relation, as_nullable

_MOST_CHOICES = 32
_NONE = ("constant", None)


def _count_choices(mode, many, sets):
    """Return how many choices of keys there are; more than the bound are not counted exactly."""
    if mode == "rollup":
        return many + 1
    if mode == "cube":
        choices = 1
        for _ in range(min(many, _MOST_CHOICES)):
            choices = choices * 2
        return choices
    return len(sets) if mode == "sets" else 1


def _cube_choices(many):
    """Return all choices, those with the first key before those without it, and so on."""
    choices = [()]
    for at in range(many):
        key = many - 1 - at
        choices = [(key,) + choice for choice in choices] + choices
    return choices


def _set_choice(names, key_names):
    """Return the numbers of the keys with these names, in the order of the keys."""
    return tuple([at for at, name in enumerate(key_names) if name in names])


def _choices_of(mode, sets, key_names):
    """Return the list of the choices of keys, each a tuple of numbers of keys."""
    many = len(key_names)
    if mode == "rollup":
        return [tuple(range(many - left_out)) for left_out in range(many + 1)]
    if mode == "cube":
        return _cube_choices(many)
    if mode == "sets":
        return [_set_choice(names, key_names) for names in sets]
    return [tuple(range(many))]


def _check_sets(mode, sets, key_names, offset):
    for names in sets:
        for name in names:
            if name not in key_names:
                raise QueryError(offset, f"unknown key {name}")
    if _count_choices(mode, len(key_names), sets) > _MOST_CHOICES:
        raise QueryError(offset, "there are too many sets of keys")


def _bind_grouping(aggregate, key_names, scope):
    """Return what grouping stands for (the number of its key, in place of a value), and its column."""
    _, code, condition, alias, offset = aggregate
    if len(code) != 1 or code[0][0] != "name" or code[0][1] is not None:
        raise QueryError(offset, "the name of a key is expected")
    _, _, name, at = code[0]
    if name not in key_names:
        raise QueryError(at, f"unknown key {name}")
    if condition is not None:
        bind_truth(condition, scope, offset)
    return ("grouping", key_names.index(name)), result_column("grouping", None, alias)


def _bind_aggregates(aggregates, key_names, scope, taken):
    values = []
    columns = []
    for aggregate in aggregates:
        if aggregate[0] == "grouping":
            value, column = _bind_grouping(aggregate, key_names, scope)
        else:
            value, column = bind_aggregate(aggregate, scope)
        check_name(column.name, taken, aggregate[4])
        values.append(value)
        columns.append(column)
    return values, columns


def _choice_items(choice, many, values):
    """Return the expressions that put the columns of one group at their places."""
    items = []
    for key in range(many):
        items.append(("column", choice.index(key)) if key in choice else _NONE)
    number = len(choice)
    for name, worth in values:
        if name == "grouping":
            items.append(("constant", 0 if worth in choice else 1))
        else:
            items.append(("column", number))
            number += 1
    return tuple(items)


def _choice_plan(choice, keys, values, plan):
    """Return the plan of the groups by one choice of keys."""
    chosen = tuple([keys[key] for key in choice])
    kept = tuple([value for value in values if value[0] != "grouping"])
    return ("project", _choice_items(choice, len(keys), values), ("group", chosen, kept, plan))


def bind_group(step, relation, setting):
    """Return the relation behind a step group by or aggregate."""
    _, offset, mode, items, sets, aggregates = step
    scope = setting.scope_of(relation.columns)
    taken = {}
    keys, key_columns = bind_items(items, scope, taken)
    key_names = [column.name for column in key_columns]
    _check_sets(mode, sets, key_names, offset)
    values, columns = _bind_aggregates(aggregates, key_names, scope, taken)
    plan = relation.whole_plan()
    has_grouping = any([value[0] == "grouping" for value in values])
    if mode in ("plain", "none") and not has_grouping:
        return Relation(("group", keys, tuple(values), plan), key_columns + columns, relation.operations + 1)
    choices = _choices_of(mode, sets, key_names)
    united = _choice_plan(choices[0], keys, values, plan)
    for choice in choices[1:]:
        united = ("union", united, _choice_plan(choice, keys, values, plan))
    # Each choice has a project and a group over the plan of before; a union joins it to the others.
    operations = len(choices) * (relation.operations + 3) - 1
    if mode != "plain":
        key_columns = as_nullable(key_columns)
    return Relation(united, key_columns + columns, operations)
