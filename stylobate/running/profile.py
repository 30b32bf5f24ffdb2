"""Profiles: what each operator of a physical plan gave, counted and needs."""

from stylobate.running.batches import flat
from stylobate.running.grouping import distinct_needs, group_needs
from stylobate.running.joining import join_needs
from stylobate.running.physical import inputs_of, meaning_of
from stylobate.running.run import work_all


class Work:
    """What a profile tells of an operator."""

    def __init__(self, operator, given, needs, counters):
        self.operator = operator
        self.given = given
        self.needs = needs
        self.counters = counters


def _needs(operator, inputs):
    """Return what an operator needs, for the lists of the rows of its inputs."""
    form = operator[0]
    if form == "join":
        return join_needs(operator[1], operator[2], inputs[0], inputs[1])
    if form == "group":
        return group_needs(operator[1], operator[2], inputs[0])
    if form == "distinct":
        return distinct_needs(operator[1], inputs[0])
    if form == "window":
        return len(inputs[0])
    if form == "top":
        _, _, skip, count, _ = operator
        many = len(inputs[0])
        return many if count is None else min(many, skip + count)
    return 0


def profile(plan, tables, *, batch, memory, hashed=None):
    """Return the list of the works of all operators, each ahead of its inputs."""
    found = []
    for worked in work_all(plan, tables, batch=batch, memory=memory, hashed=hashed):
        needs = _needs(worked.operator, worked.inputs)
        found.append(Work(worked.operator, len(flat(worked.batches)), needs, worked.counters))
    return found


def needs_of(operator, tables):
    """Return what the operator needs: the least memory with which it writes nothing."""
    return _needs(operator, [meaning_of(below, tables) for below in inputs_of(operator)])
