"""The judge: whether a code over a program is right."""

from leastkeep.codes import code_graph, code_said, code_stepped
from leastkeep.errors import NotOver
from leastkeep.graphs import exits_of
from leastkeep.programs import forms_said, graph_of, said_at, stepped
from leastkeep.searching import Node, nodes_found


def judge(program, code):
    """None for a right code, otherwise a shortest run on which it says another number than the program."""
    check_over(program, code)
    size = len(program.variables) + 1
    graph = graph_of(program)
    start = Node(0, (1,) + (0,) * len(program.variables) + code.start, None, None)

    def moves(row, vector):
        return [(number, other, _both_stepped(program, code, row, vector, number))
                for number, other in exits_of(graph, row, (0, 1))]

    for node in nodes_found(program.width, [start], moves):
        registers = (1,) + node.vector[size:]
        if said_at(program, node.row, node.vector[:size]) != code_said(code, node.row, registers):
            return node.numbers_ahead() + (0,)
    return None


def check_over(program, code):
    """Raise NotOver if a code does not stand over a program."""
    if program.width != code.width or len(program.rows) != len(code.rows):
        raise NotOver(-1)
    exits = list(zip(graph_of(program), code_graph(code)))
    for row, (one, other) in enumerate(exits):
        if one != other or len(forms_said(program, row)) != len(code.rows[row][2]):
            raise NotOver(row)


def _both_stepped(program, code, row, vector, number):
    """What stands behind a row for both at once: 1, the values and the registers."""
    size = len(program.variables) + 1
    registers = code_stepped(code, row, (1,) + vector[size:], number)
    return stepped(program, row, vector[:size], number) + registers[1:]
