"""Runs of a program, and ways on from any row and values."""

from leastkeep.errors import NoState
from leastkeep.graphs import check_numbers, next_row
from leastkeep.programs import check_row, graph_of, said_at, stepped
from leastkeep.values import lowered, wrong_integer


def run(program, numbers):
    """Execute a row for each number, from row 0 on; tell the row behind them, the state and what was said."""
    return _behind(program, 0, (0,) * len(program.variables), numbers)


def go_on(program, row, state, numbers):
    """Execute a row for each number, from a row and a state on; tell the same as `run`."""
    check_row(program, row)
    check_state(program, state)
    return _behind(program, row, state, numbers)


def check_state(program, state):
    """Raise NoState if a value has no integer for each variable."""
    index = wrong_integer(state, len(program.variables))
    if index is not None:
        raise NoState(index)


def _behind(program, row, state, numbers):
    graph = graph_of(program)
    check_numbers(graph, row, numbers)
    vector = (1,) + lowered(state, program.width)
    said = []
    for number in numbers:
        said.extend(said_at(program, row, vector))
        vector = stepped(program, row, vector, number)
        row = next_row(graph, row, number)
    return (row, vector[1:], said)
