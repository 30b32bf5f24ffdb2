"""Reading functions, and expressions that stand alone in a text."""

from stylobate.language.reader import Reader
from stylobate.language.reading_expressions import read_code

_END = "the end is expected"


def read_alone(text):
    """Return the code of a text that is an expression."""
    reader = Reader(text)
    code = read_code(reader)
    reader.need_end(_END)
    return code


def read_function(text):
    """Return the name, the tuple of the parameters and the code of the body of a function."""
    reader = Reader(text)
    name = reader.need_name()
    reader.need_sign("(")
    parameters = [reader.need_name()]
    while reader.took_sign(","):
        parameters.append(reader.need_name())
    reader.need_sign(")")
    reader.need_sign("=")
    code = read_code(reader)
    reader.need_end(_END)
    return name, tuple(parameters), code
