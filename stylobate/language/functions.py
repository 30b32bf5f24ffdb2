"""Checking functions that are to be defined."""

from stylobate.errors import QueryError
from stylobate.language.defined import body_fault, load_functions
from stylobate.language.meanings import is_call_name
from stylobate.language.reading_functions import read_function

_MOST_PARAMETERS = 3


def _check_head(name, parameters, functions):
    """Raise the fault of the name or of the parameters, if there is one."""
    if is_call_name(name) or any([function.name == name for function in functions]):
        raise QueryError(0, f"the name stands already: {name}")
    if len(parameters) > _MOST_PARAMETERS:
        raise QueryError(0, "there are too many parameters")
    for at, parameter in enumerate(parameters):
        if parameter in parameters[:at]:
            raise QueryError(0, f"the name stands twice: {parameter}")


def check_function(text, catalog):
    """Return the name of a function that can be defined behind those of the catalog."""
    name, parameters, code = read_function(text)
    functions = load_functions(catalog.functions)
    _check_head(name, parameters, functions)
    fault = body_fault(code, parameters, functions)
    if fault is not None:
        raise QueryError(fault[0], fault[1])
    return name
