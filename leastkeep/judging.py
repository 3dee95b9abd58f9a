"""The judge: whether a code over a program is right."""

from leastkeep.codes import Code, code_graph
from leastkeep.errors import NotOver
from leastkeep.machines import as_code
from leastkeep.pairs import first_stray
from leastkeep.programs import forms_said, graph_of


def judge(program, code):
    """None for a right code, otherwise a shortest run on which it says another number than the program."""
    check_over(program, code)
    return first_stray(as_code(program), code)


def check_over(program, code):
    """Raise NotOver if a value is no code that stands over a program."""
    if not isinstance(code, Code) or program.width != code.width or len(program.rows) != len(code.rows):
        raise NotOver(-1)
    exits = list(zip(graph_of(program), code_graph(code)))
    for row, (one, other) in enumerate(exits):
        if one != other or len(forms_said(program, row)) != len(code.rows[row][2]):
            raise NotOver(row)
