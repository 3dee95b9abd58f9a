"""Programs whose functions call one another: what is handed in, and how they are executed."""

from leastkeep.bodies import Execution, bodies_of, check_function, numbers_done
from leastkeep.errors import NoCalls, NoState
from leastkeep.programs import is_name, is_row, is_variable, lowered_row
from leastkeep.values import is_form, is_sequence, is_width, is_within, lowered, wrong_integer

MOST_FUNCTIONS = 4
MOST_PARAMETERS = 3
MOST_VARIABLES = 4
MOST_ROWS = 12


class Calls:
    """Functions with rows that set, ask, say, choose, call and return, modulo 2 ** width; function 0 is the program."""

    def __init__(self, width, functions):
        if not is_width(width):
            raise NoCalls(-1, "width", -1)
        if not is_sequence(functions, 1, MOST_FUNCTIONS):
            raise NoCalls(-1, "functions", -1)
        for index, function in enumerate(functions):
            _check_head(functions, index, function)
        for index, function in enumerate(functions):
            _check_rows(functions, index, function)
        self.width = width
        self.functions = tuple([_lowered_function(function, width) for function in functions])

    def __eq__(self, other):
        return isinstance(other, Calls) and self.width == other.width and self.functions == other.functions


def run_function(program, function, values, numbers):
    """Begin a function, and execute a row for each number; tell the open calls, the result and what was said."""
    check_function(program, function)
    bodies = bodies_of(program)
    index = wrong_integer(values, bodies[function].inlets)
    if index is not None:
        raise NoState(index)
    execution = Execution(bodies, function, (1,) + lowered(values, program.width))
    numbers_done(execution, numbers)
    stack = [(frame.function, frame.row, frame.vector[1:]) for frame in execution.frames]
    return (stack, execution.result, execution.told)


def _check_head(functions, index, function):
    if not isinstance(function, tuple) or len(function) != 4:
        raise NoCalls(index, "function", -1)
    name, parameters, variables, _ = function
    if not is_name(name) or name in [earlier[0] for earlier in functions[:index]]:
        raise NoCalls(index, "name", -1)
    most = MOST_PARAMETERS if index else 0
    if not isinstance(parameters, tuple) or len(parameters) > most:
        raise NoCalls(index, "parameters", -1)
    _check_names(index, "parameters", parameters, ())
    if not isinstance(variables, tuple) or not 1 <= len(parameters) + len(variables) <= MOST_VARIABLES:
        raise NoCalls(index, "variables", -1)
    _check_names(index, "variables", variables, parameters)


def _check_names(index, part, names, earlier):
    for at, name in enumerate(names):
        if not is_name(name) or name in earlier + names[:at]:
            raise NoCalls(index, part, at)


def _check_rows(functions, index, function):
    rows = function[3]
    if not isinstance(rows, tuple) or not 1 <= len(rows) <= MOST_ROWS:
        raise NoCalls(index, "rows", -1)
    variables = function[1] + function[2]
    for at, item in enumerate(rows):
        if not _is_row(functions, variables, item, len(rows)):
            raise NoCalls(index, "rows", at)


def _is_row(functions, variables, item, many):
    """Whether a value is a row of a function with some variables and `many` rows."""
    if not isinstance(item, tuple) or not item or not isinstance(item[0], str):
        return False
    if item[0] == "return":
        return len(item) == 2 and is_form(item[1], len(variables))
    if item[0] == "call":
        return len(item) == 5 and _is_call(functions, variables, item, many)
    return item[0] != "stop" and is_row(item, variables, many)


def _is_call(functions, variables, item, many):
    _, variable, name, forms, following = item
    if not is_variable(variable, variables) or not isinstance(name, str) or not isinstance(forms, tuple):
        return False
    sizes = [len(function[1]) for function in functions if function[0] == name]
    return (sizes == [len(forms)] and all([is_form(form, len(variables)) for form in forms])
            and is_within(following, 0, many - 1))


def _lowered_function(function, width):
    name, parameters, variables, rows = function
    return (name, parameters, variables, tuple([_lowered_item(item, width) for item in rows]))


def _lowered_item(item, width):
    if item[0] == "return":
        return ("return", lowered(item[1], width))
    if item[0] == "call":
        return item[:3] + (tuple([lowered(form, width) for form in item[3]]), item[4])
    return lowered_row(item, width)
