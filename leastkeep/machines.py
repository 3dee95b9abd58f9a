"""Codes made ready for many steps, and programs as codes."""

from leastkeep.codes import Code, code_graph
from leastkeep.lanes import Blend
from leastkeep.programs import forms_said, graph_of, stepped
from leastkeep.values import product_of, unit_row


def as_code(program):
    """The program as a code that stands over it: its registers are the variables."""
    size = len(program.variables)
    rows = []
    for row, (kind, nexts) in enumerate(graph_of(program)):
        says = tuple(forms_said(program, row))
        rows.append((kind, nexts, says, (_change(program, row, kind),) * len(nexts)))
    return Code(program.width, [size] * len(rows), rows, (0,) * size)


def _change(program, row, kind):
    """The forms for all variables behind a row."""
    size = len(program.variables)
    columns = [stepped(program, row, unit_row(place, size + 1), 0) for place in range(size + 1)]
    if kind == "ask":
        columns.append(stepped(program, row, (0,) * (size + 1), 1))
    return tuple([tuple([column[place] for column in columns]) for place in range(1, size + 1)])


class Machine:
    """A code made ready for many steps. Its vectors are 1 and the registers, or 0 and a difference of registers."""

    def __init__(self, code):
        self.code = code
        self.graph = code_graph(code)
        self.start = (1,) + code.start
        self.blends = {}

    def said(self, row, vector):
        """The list of what a row says; a stop row says nothing."""
        kind, _, says, _ = self.code.rows[row]
        if kind == "stop":
            return []
        return [product_of(form, vector, self.code.width) for form in says]

    def step(self, row, vector, number):
        """What stands behind a row if a number is asked for or chosen; with a difference none but 0 is asked for."""
        kind = self.graph[row][0]
        label = number if kind == "choose" else 0
        if (row, label) not in self.blends:
            self.blends[row, label] = self._blend(row, label)
        factors = vector + (number & ((1 << self.code.width) - 1),) if kind == "ask" else vector
        return vector[:1] + self.blends[row, label].total(factors)

    def _blend(self, row, label):
        forms = self.code.rows[row][3][label]
        columns = len(forms[0]) if forms else 0
        rows = [tuple([form[place] for form in forms]) for place in range(columns)]
        return Blend(self.code.width, len(forms), rows)
