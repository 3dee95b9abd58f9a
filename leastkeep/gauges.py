"""Codes whose registers are values of forms over the variables."""

from leastkeep.building import idle_row
from leastkeep.codes import Code
from leastkeep.keeping import kept_wants
from leastkeep.programs import forms_said, graph_of, place_of, pulled_back
from leastkeep.stairs import Solver
from leastkeep.values import lowered, product_of


class Gauge:
    """What a code keeps at a row: the values of as few forms as there can be, from which all that is wanted follows."""

    def __init__(self, width, there, wants):
        self.width = width
        self.base = (1,) + there[0]
        self.differences = [(0,) + difference for difference in there[1]]
        self.parts = [(0,) + part for part in kept_wants(width, there, wants)]
        self.solver = Solver(width, len(self.differences), [self._changes_of(part) for part in self.parts])

    def form_over(self, form):
        """The form over the registers that has the value of a form over the variables, if its linear part is wanted."""
        factors = self.solver.factors(self._changes_of(form))
        constant = product_of(form, self.base, self.width)
        for factor, part in zip(factors, self.parts):
            constant -= factor * product_of(part, self.base, self.width)
        return lowered((constant,) + factors, self.width)

    def _changes_of(self, form):
        """By how much a form changes with each of the differences of states."""
        return [product_of(form, difference, self.width) for difference in self.differences]


def gauges_of(width, hulls, wants):
    """For each row its gauge, or None where no state is."""
    return [None if there is None else Gauge(width, there, parts) for there, parts in zip(hulls, wants)]


def gauged_code(program, gauges):
    """A code over a program that keeps what the gauges of its rows tell.

    What is wanted behind a row must be wanted there, too.
    """
    counts = [0 if gauge is None else len(gauge.parts) for gauge in gauges]
    rows = [idle_row(program, row, counts) if gauge is None else _gauged_row(program, row, gauges)
            for row, gauge in enumerate(gauges)]
    return Code(program.width, counts, rows, (0,) * counts[0])


def _gauged_row(program, row, gauges):
    kind, nexts = graph_of(program)[row]
    says = tuple([gauges[row].form_over(form) for form in forms_said(program, row)])
    changes = tuple([tuple([_change(program, row, gauges[row], part) for part in gauges[behind].parts])
                     for behind in nexts])
    return (kind, nexts, says, changes)


def _change(program, row, gauge, part):
    """The form over the registers at a row for what is kept behind it."""
    asked = (part[place_of(program, program.rows[row])],) if program.rows[row][0] == "ask" else ()
    return gauge.form_over(pulled_back(program, row, part, 0)) + asked
