"""The hulls of the states that reach a row, and the relations that hold there."""

from leastkeep.errors import NoForm
from leastkeep.graphs import exits_of, wrong_number
from leastkeep.modules import kernel, picked
from leastkeep.programs import check_row, graph_of, stepped
from leastkeep.runs import run
from leastkeep.searching import Node, by_row, nodes_found
from leastkeep.stairs import stairs_of
from leastkeep.values import product_of, wrong_integer


def hull(program, row):
    """The hull of all states with which runs reach a row: (base, module), or None."""
    check_row(program, row)
    return all_hulls(program)[row]


def all_hulls(program):
    """The list of the hulls of all rows."""
    found = _nodes_by_row(program)
    return [hull_of(program.width, [node.vector[1:] for node in nodes]) for nodes in found]


def relations(program, row):
    """The echelon of all forms that are 0 in each state with which a run reaches a row."""
    check_row(program, row)
    vectors = [node.vector for node in _nodes_by_row(program)[row]]
    return kernel(program.width, len(program.variables) + 1, vectors)


def nonzero(program, row, form):
    """None for a relation of a row, otherwise a shortest run behind which the form is not 0."""
    check_row(program, row)
    check_form(program, form)
    for node in _nodes_by_row(program)[row]:
        if product_of(form, node.vector, program.width):
            return node.numbers_ahead()
    return None


def spanning_runs(program, row):
    """As few runs as there can be, whose states have the hull of a row."""
    check_row(program, row)
    nodes = _nodes_by_row(program)[row]
    if not nodes:
        return []
    first = nodes[0].vector
    size = len(first)
    chosen = picked(program.width, size, [_difference(node.vector, first) for node in nodes])
    return [nodes[index].numbers_ahead() for index in [0] + chosen]


def is_spanning(program, row, runs):
    """Whether a value is a list of runs that reach a row and whose states have its hull."""
    check_row(program, row)
    if not isinstance(runs, list):
        return False
    if not all([reaches(program, row, numbers) for numbers in runs]):
        return False
    states = [run(program, numbers)[1] for numbers in runs]
    return hull_of(program.width, states) == hull(program, row)


def check_form(program, form):
    """Raise NoForm if a value is no list or tuple with as many integers as a form over the variables has."""
    index = wrong_integer(form, len(program.variables) + 1)
    if index is not None:
        raise NoForm(index)


def reaches(program, row, numbers):
    """Whether a value is a run that reaches a row."""
    return wrong_number(graph_of(program), 0, numbers) is None and run(program, numbers)[0] == row


def _nodes_by_row(program):
    """For each row a list of nodes: runs that reach it, the shorter ones first, from whose states all others follow.

    A state behind an ask is a sum of those behind 0 and 1, whose factors have
    the sum 1: other numbers need not be asked.
    """
    graph = graph_of(program)
    start = Node(0, (1,) + (0,) * len(program.variables), None, None)

    def moves(row, vector):
        return [(number, other, stepped(program, row, vector, number))
                for number, other in exits_of(graph, row, (0, 1))]

    return by_row(len(program.rows), nodes_found(program.width, [start], moves))


def _difference(one, other):
    return tuple([number - less for number, less in zip(one, other)])


def hull_of(width, states):
    """The hull of some states, as `hull` tells it: (base, module), or None if there are none."""
    if not states:
        return None
    differences = [_difference(state, states[0]) for state in states]
    stairs = stairs_of(width, len(states[0]), differences)
    return (stairs.rest(states[0]), stairs.echelon_rows())


def hull_of_vectors(width, vectors):
    """The hull whose states and differences are sums of vectors: of 1 and a state, or 0 and a difference of states."""
    if not vectors:
        return None
    rows = stairs_of(width, len(vectors[0]), vectors).echelon_rows()
    return (rows[0][1:], [row[1:] for row in rows[1:]])
