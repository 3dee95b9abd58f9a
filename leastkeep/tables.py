"""What can still be told at a row, from what is said alone."""

from leastkeep.graphs import exits_of, rows_on_way
from leastkeep.hulls import all_hulls
from leastkeep.keeping import told_hull
from leastkeep.programs import check_row, forms_said, graph_of, said_at, stepped
from leastkeep.searching import Node, nodes_found
from leastkeep.stairs import Stairs
from leastkeep.wants import form_of_way


def table_of(program, row):
    """None for a row that no run reaches, otherwise a tuple (ways, base, module).

    ways has the first ways on with the position of a number that is no sum of
    those told ahead, module what these numbers differ by, and base these
    numbers themselves, smaller than the pivots of the module.
    """
    check_row(program, row)
    there = all_hulls(program)[row]
    if there is None:
        return None
    ways = _first_ways(program, row, there[1])
    forms = [form_of_way(program, row, numbers, index) for numbers, index in ways]
    base, module = told_hull(program.width, there, forms)
    return (ways, base, module)


def _first_ways(program, row, differences):
    """The list of the first (way on, position) that say what is no sum of what is said ahead of it.

    A node of the search has what becomes of all differences on a way: where
    this is a sum of what became of them on ways ahead, all that is said later
    on is such a sum, too.
    """
    found = []
    stairs = Stairs(program.width, len(differences), len(differences))
    for node in _way_nodes(program, row, differences):
        told = [said_at(program, node.row, vector) for vector in _split(program, node.vector)]
        for position in range(len(forms_said(program, node.row))):
            if stairs.take([said[position] for said in told]):
                found.append(_way_of(program, row, node, position))
    return found


def _way_nodes(program, row, differences):
    """Nodes of ways on, on which 0 is asked for, in the order of these ways: shorter ones first, then the least one."""
    graph = graph_of(program)

    def moves(spot, vector):
        parts = _split(program, vector)
        return [(number, behind, _joined([stepped(program, spot, part, 0) for part in parts]))
                for number, behind in exits_of(graph, spot, (0,))]

    start = Node(row, _joined([(0,) + difference for difference in differences]), None, None)
    return nodes_found(program.width, [start], moves)


def _joined(parts):
    """Rows one behind the other, as one row."""
    return tuple([number for part in parts for number in part])


def _split(program, vector):
    """The list of the rows that stand one behind the other, each of 0 and a difference of states."""
    size = len(program.variables) + 1
    return [vector[at:at + size] for at in range(0, len(vector), size)]


def _way_of(program, row, node, position):
    """The way on that executes the row of a node last, with the position of one of the numbers said there."""
    numbers = node.numbers_ahead()
    ahead = rows_on_way(graph_of(program), row, numbers)
    return (numbers + (0,), sum([len(forms_said(program, spot)) for spot in ahead]) + position)
