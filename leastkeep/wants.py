"""What can still be wanted at a row: what is said behind it."""

from leastkeep.graphs import exits_of, rows_on_way, wrong_number
from leastkeep.hulls import check_form
from leastkeep.modules import echelon, is_in, picked
from leastkeep.programs import check_row, forms_said, graph_of, pulled_back, said_at, stepped
from leastkeep.runs import check_state
from leastkeep.searching import Node, by_row, nodes_found
from leastkeep.values import is_within, lowered


def wanted(program, row):
    """The echelon of the module of the linear parts of all that is said on ways on from a row."""
    check_row(program, row)
    return all_wanted(program)[row]


def all_wanted(program):
    """The list of what is wanted at all rows."""
    size = len(program.variables)
    found = nodes_wanting(program, starts_saying(program))
    return [echelon(program.width, size, [node.vector for node in nodes]) for nodes in found]


def is_wanted(program, row, form):
    """Whether the linear part of a form is an element of what is wanted at a row."""
    check_row(program, row)
    check_form(program, form)
    return is_in(program.width, len(program.variables), wanted(program, row), form[1:])


def spanning_ways(program, row):
    """As few (way on, index of a number that it says) as there can be, which make up what is wanted at a row."""
    check_row(program, row)
    nodes = nodes_wanting(program, starts_saying(program))[row]
    chosen = picked(program.width, len(program.variables), [node.vector for node in nodes])
    return [_way_from(program, nodes[index]) for index in chosen]


def is_spanning_ways(program, row, ways):
    """Whether a value is a list of tuples as of `spanning_ways`, however many."""
    check_row(program, row)
    if not isinstance(ways, list):
        return False
    if not all([is_way(program, row, item) for item in ways]):
        return False
    parts = [form_of_way(program, row, numbers, index)[1:] for numbers, index in ways]
    return echelon(program.width, len(program.variables), parts) == wanted(program, row)


def told_apart(program, row, one, other):
    """None if from two states all ways on say the same, otherwise a shortest one that does not."""
    check_row(program, row)
    check_state(program, one)
    check_state(program, other)
    graph = graph_of(program)
    difference = [number - less for number, less in zip(one, other)]
    start = Node(row, (0,) + lowered(difference, program.width), None, None)

    def moves(spot, vector):
        return [(number, behind, stepped(program, spot, vector, number))
                for number, behind in exits_of(graph, spot, (0,))]

    for node in nodes_found(program.width, [start], moves):
        if any(said_at(program, node.row, node.vector)):
            return node.numbers_ahead() + (0,)
    return None


def is_way(program, row, item):
    """Whether a value is a tuple of a way on from a row and the position of one of the numbers that it says."""
    if not isinstance(item, tuple) or len(item) != 2:
        return False
    graph = graph_of(program)
    if wrong_number(graph, row, item[0]) is not None:
        return False
    counts = [len(forms_said(program, spot)) for spot in rows_on_way(graph, row, item[0])]
    return is_within(item[1], 0, sum(counts) - 1)


def form_of_way(program, row, numbers, index):
    """The form, over the variables at a row, of a number that a way on from it says."""
    on_way = rows_on_way(graph_of(program), row, numbers)
    at = 0
    while index >= len(forms_said(program, on_way[at])):
        index -= len(forms_said(program, on_way[at]))
        at += 1
    form = forms_said(program, on_way[at])[index]
    for ahead in reversed(range(at)):
        form = pulled_back(program, on_way[ahead], form, numbers[ahead])
    return form


def starts_saying(program):
    """Nodes without a source: the linear parts that the rows say; their numbers are the positions among these."""
    return [Node(row, form[1:], None, position) for row in range(len(program.rows))
            for position, form in enumerate(forms_said(program, row))]


def nodes_wanting(program, starts):
    """For each row a list of nodes: linear parts of what is wanted on ways on, the shorter ones first.

    The search goes back from some nodes, such as those of the rows that say something.
    """
    steps_to = _steps_to_rows(program)

    def moves(row, part):
        return [(number, ahead, pulled_back(program, ahead, (0,) + part, 0)[1:]) for number, ahead in steps_to[row]]

    return by_row(len(program.rows), nodes_found(program.width, starts, moves))


def _steps_to_rows(program):
    """For each row the list of (number, row ahead of it); what is asked does not matter for linear parts."""
    graph = graph_of(program)
    found = [[] for _ in program.rows]
    for ahead in range(len(program.rows)):
        for number, row in exits_of(graph, ahead, (0,)):
            found[row].append((number, ahead))
    return found


def _way_from(program, node):
    """The way on of a node, and which of the numbers that it says is meant: one of its last row."""
    numbers = node.numbers_back()
    index = 0
    while node.source is not None:
        index += len(forms_said(program, node.row))
        node = node.source
    return (numbers + (0,), index + node.number)
