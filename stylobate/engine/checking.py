"""Checks of what is passed to the engine."""

from stylobate.errors import InvalidColumns, InvalidName, InvalidOptions, InvalidSize
from stylobate.optimizer.rules import RULES
from stylobate.values.decimals import GREATEST
from stylobate.values.kinds import KINDS
from stylobate.values.order import is_integer
from stylobate.values.texts import MOST

_MOST_NAME = 40
_MOST_COLUMNS = 12
_MOST_SIZE = 1000
_MOST_PARAMETERS = 20
_MOST_BATCH = 1000
_MOST_MEMORY = 100000
_MOST_CHOICES = 100
_MOST_CHOICE = 100
_MOST_MOVES = 100
_MOST_PLACE = 99


def _is_name(name):
    return 1 <= len(name) <= _MOST_NAME


def check_name(name):
    """Raise an error if a name is too short or too long."""
    if not _is_name(name):
        raise InvalidName(f"a name has 1 to {_MOST_NAME} characters")


def check_columns(columns):
    """Raise an error if columns (name, kind, nullable) are not as they must be."""
    names = {name: True for name, _, _ in columns}
    if not 1 <= len(columns) <= _MOST_COLUMNS or len(names) != len(columns):
        raise InvalidColumns(f"there are 1 to {_MOST_COLUMNS} columns with different names")
    for name, kind, _ in columns:
        if not _is_name(name) or kind not in KINDS:
            raise InvalidColumns("a column has no name or no kind that can be")


def check_size(size):
    """Raise an error if a group size is out of its bounds."""
    if not 1 <= size <= _MOST_SIZE:
        raise InvalidSize(f"a group size is from 1 to {_MOST_SIZE}")


def check_separator(separator):
    """Raise an error if a separator cannot separate fields."""
    if len(separator) != 1 or separator in ("\"", "\n"):
        raise InvalidOptions("a separator is one character, but no quotation mark or line feed")


class Options:
    """The options of a query."""

    def __init__(self, parameters, batch, memory, choices, moves):
        self.parameters = list(parameters)
        self.batch = batch
        self.memory = memory
        self.choices = list(choices)
        self.moves = None if moves is None else list(moves)


def _is_parameter(value):
    if isinstance(value, str):
        return len(value) <= MOST
    return value is None or isinstance(value, bool) or (is_integer(value) and abs(value) <= GREATEST)


def _lies(number, low, high):
    return is_integer(number) and low <= number <= high


def _are_choices(choices):
    return len(choices) <= _MOST_CHOICES and all([_lies(choice, 0, _MOST_CHOICE) for choice in choices])


def _are_moves(moves):
    if len(moves) > _MOST_MOVES:
        return False
    return all([rule in RULES and _lies(place, 0, _MOST_PLACE) for rule, place in moves])


def checked_options(parameters, batch, memory, choices, moves):
    """Return the options of a query; raise an error if they are not as they must be."""
    if len(parameters) > _MOST_PARAMETERS or not all([_is_parameter(value) for value in parameters]):
        raise InvalidOptions("a parameter is not as it must be")
    if not _lies(batch, 1, _MOST_BATCH) or not _lies(memory, 1, _MOST_MEMORY):
        raise InvalidOptions("the batch size or the memory is out of its bounds")
    if not _are_choices(choices):
        raise InvalidOptions("a choice is not as it must be")
    if moves is not None and not _are_moves(moves):
        raise InvalidOptions("a move is not as it must be")
    return Options(parameters, batch, memory, choices, moves)
