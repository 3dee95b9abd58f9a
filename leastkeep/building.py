"""Least codes: what their registers stand for, and how they change from row to row."""

from leastkeep.codes import Code
from leastkeep.keeping import kept_parts
from leastkeep.programs import forms_said, kind_and_nexts, stepped
from leastkeep.stairs import Solver
from leastkeep.values import product_of


class Spot:
    """What a code keeps at a row: its registers stand for the base plus the sum of their multiples of the parts."""

    def __init__(self, width, hull_there, wants):
        self.width = width
        self.base = (1,) + hull_there[0]
        self.parts = [(0,) + part for part in kept_parts(width, hull_there, wants)]

    def form_kept(self, form):
        """The form over the registers that has the value of a form over the variables."""
        return tuple([product_of(form, vector, self.width) for vector in [self.base] + self.parts])


class Passage:
    """How states that come to a row are kept at a spot, perhaps at that of another row.

    forms has tuples of a form over the variables of the row and one over
    those of the spot: states are alike if all these forms have equal values.
    """

    def __init__(self, spot, forms):
        self.spot = spot
        self.forms = forms
        rows = [spot.form_kept(other) for _, other in forms]
        columns = [[row[at + 1] for row in rows] for at in range(len(spot.parts))]
        self.solver = Solver(spot.width, len(forms), columns)

    def registers_for(self, vector):
        """The registers for 1 and a state, or what they differ by for 0 and a difference of states."""
        spot = self.spot
        wished = [product_of(one, vector, spot.width) - vector[0] * product_of(other, spot.base, spot.width)
                  for one, other in self.forms]
        return self.solver.factors(wished)


def passage_to(spot, wants):
    """The passage of the states of a row to its own spot."""
    forms = [(0,) + part for part in wants]
    return Passage(spot, list(zip(forms, forms)))


def code_row(program, row, spot, exits):
    """A row of a code, in the place of a row of a program; exits has a tuple (next row, passage) for each label."""
    kind = kind_and_nexts(program.rows[row])[0]
    says = tuple([spot.form_kept(form) for form in forms_said(program, row)])
    changes = tuple([_change(program, row, spot, passage) for _, passage in exits])
    return (kind, tuple([behind for behind, _ in exits]), says, changes)


def _change(program, row, spot, passage):
    """The forms over the registers at a row, for those behind it."""
    columns = [passage.registers_for(stepped(program, row, vector, 0)) for vector in [spot.base] + spot.parts]
    if program.rows[row][0] == "ask":
        columns.append(passage.registers_for(stepped(program, row, (0,) * len(spot.base), 1)))
    return tuple([tuple([column[at] for column in columns]) for at in range(len(passage.spot.parts))])


def idle_row(program, row, counts):
    """A row of a code for a row that no run reaches: it has no registers; counts has those of all rows."""
    kind, nexts = kind_and_nexts(program.rows[row])
    says = ((0,),) * len(forms_said(program, row))
    zeros = (0, 0) if kind == "ask" else (0,)
    return (kind, nexts, says, tuple([(zeros,) * counts[behind] for behind in nexts]))


def least_code(program, hulls, wants):
    """A code over a program that keeps only what differs within the hulls and is wanted, as little as there can be.

    The state behind each step from a state of a hull must be in the hull of the row that comes next.
    """
    width = program.width
    spots = [None if there is None else Spot(width, there, parts) for there, parts in zip(hulls, wants)]
    passages = [None if spot is None else passage_to(spot, parts) for spot, parts in zip(spots, wants)]
    counts = [0 if spot is None else len(spot.parts) for spot in spots]
    rows = []
    for row, spot in enumerate(spots):
        if spot is None:
            rows.append(idle_row(program, row, counts))
        else:
            nexts = kind_and_nexts(program.rows[row])[1]
            rows.append(code_row(program, row, spot, [(behind, passages[behind]) for behind in nexts]))
    start = passages[0].registers_for((1,) + (0,) * len(program.variables))
    return Code(width, counts, rows, start)
