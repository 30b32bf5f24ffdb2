"""Keeping the answer of a plan."""

from stylobate.kept.changes import changed_rows
from stylobate.kept.telling import State, change_of
from stylobate.meaning.operators import worked_up
from stylobate.meaning.plans import operator_rows


def _copied(rows):
    return [list(row) for row in rows]


def _rows_of_all(plan, tables):
    """Return the list of the lists of the rows of all operators, each ahead of its inputs."""
    told = []

    def work(operator, inputs):
        told.append(operator_rows(operator, inputs, tables))
        return told[-1]

    worked_up(plan, work)
    # The operators were worked from the last one to the first one.
    return told[::-1]


class Keeper:
    """The rows of all operators of a plan, which follow the changes of the tables."""

    def __init__(self, plan, tables):
        self._plan = plan
        self._rows = _rows_of_all(plan, tables)

    def held(self):
        """Return the list of the rows of the answer now."""
        return _copied(self._rows[0])

    def parts(self):
        """Return the list of the lists of the rows of all operators, each ahead of its inputs."""
        return [_copied(rows) for rows in self._rows]

    def take(self, changes):
        """Take the changes of the tables, a dict of their numbers and changes; return the change of the answer."""
        waiting = list(self._rows)
        told = []

        def work(operator, inputs):
            old = waiting.pop()
            change = change_of(operator, inputs, old, changes)
            told.append(old if change.nothing else changed_rows(old, change))
            return State(old, told[-1], change)

        change = worked_up(self._plan, work).change
        self._rows = told[::-1]
        return change

    def fork(self):
        """Return an equal keeper that shares nothing that can be changed."""
        forked = Keeper(self._plan, [])
        forked._rows = self.parts()
        return forked
