"""Functions that were defined."""

from stylobate.language.meanings import is_call
from stylobate.language.reading_functions import read_function
from stylobate.values.days import read_date


class Defined:
    """A function: its place among all functions, name, parameters, body, and whether it can be used."""

    def __init__(self, at, name, parameters, code, usable):
        self.at = at
        self.name = name
        self.parameters = parameters
        self.code = code
        self.usable = usable


def find_defined(functions, name, count):
    """Return the last function with this name and so many parameters, or None."""
    for function in reversed(functions):
        if function.name == name and len(function.parameters) == count:
            return function
    return None


def call_fault(node, functions):
    """Return the offset and the reason of the fault of a call, or None."""
    _, name, count, offset = node
    if is_call(name, count):
        return None
    found = find_defined(functions, name, count)
    if found is None:
        return (offset, f"unknown function {name}")
    return None if found.usable else (offset, f"this function cannot be used: {name}")


def date_fault(node):
    """Return the offset and the reason of the fault of a date, or of those behind in, or None."""
    if node[0] == "date":
        return None if read_date(node[1]) is not None else (node[2], "invalid date")
    if node[0] == "in":
        wrong = [literal for literal in node[2] if literal[0] == "date" and read_date(literal[1]) is None]
        return (node[3], "invalid date") if wrong else None
    return None


def _node_fault(node, parameters, functions):
    if node[0] == "name":
        _, table, name, offset = node
        return None if table is None and name in parameters else (offset, f"unknown name {name}")
    if node[0] == "parameter":
        return (node[2], "a parameter is not given")
    if node[0] == "call":
        return call_fault(node, functions)
    return date_fault(node)


def body_fault(code, parameters, functions):
    """Return the offset and the reason of the first fault of the body of a function, or None."""
    for node in code:
        fault = _node_fault(node, parameters, functions)
        if fault is not None:
            return fault
    return None


def load_functions(texts):
    """Return the functions of these texts, in order."""
    functions = []
    for text in texts:
        name, parameters, code = read_function(text)
        usable = body_fault(code, parameters, functions) is None
        functions.append(Defined(len(functions), name, parameters, code, usable))
    return functions
