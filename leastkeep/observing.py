"""Codes that are freed of what they never say."""

from leastkeep.codes import Code
from leastkeep.lanes import Blend
from leastkeep.modules import picked
from leastkeep.searching import Node, by_row, nodes_found
from leastkeep.stairs import Solver
from leastkeep.values import product_of, unit_row


def observed(code):
    """A code with the same rows that says the same on all runs.

    Its registers are forms over those of the code, so few that what is said
    on all ways on is made up of them; all registers where that takes as many.
    """
    views = [View(code.width, code.counts[row], parts) for row, parts in enumerate(_parts_said(code))]
    rows = [_seen_row(code, row, views) for row in range(len(code.rows))]
    start = tuple([product_of(part, code.start, code.width) for part in views[0].parts])
    return Code(code.width, [len(view.parts) for view in views], rows, start)


class View:
    """Linear parts over the registers of a row, of which those of all that is said behind it are sums."""

    def __init__(self, width, size, parts):
        self.whole = len(parts) == size
        if self.whole:
            parts = [unit_row(place, size) for place in range(size)]
        self.parts = parts
        self.solver = None if self.whole else Solver(width, size, parts)

    def seen(self, form):
        """A form over the registers as one over the parts."""
        if self.whole:
            return form
        return form[:1] + self.solver.factors(form[1:])


def _seen_row(code, row, views):
    kind, nexts, says, changes = code.rows[row]
    seen_says = () if kind == "stop" else tuple([views[row].seen(form) for form in says])
    seen_changes = tuple([_seen_change(code, row, forms, views[row], views[spot])
                          for spot, forms in zip(nexts, changes)])
    return (kind, nexts, seen_says, seen_changes)


def _seen_change(code, row, forms, view, behind):
    """The forms for the parts behind a row, over the parts at the row."""
    size = code.counts[row] + 1
    asked = 1 if code.rows[row][0] == "ask" else 0
    blend = Blend(code.width, size + asked, forms)
    found = [blend.total(part) for part in behind.parts]
    return tuple([view.seen(form[:size]) + form[size:] for form in found])


def _parts_said(code):
    """For each row as few linear parts as there can be that make up all that is said on ways on from it."""
    steps_to = _steps_to_rows(code)
    starts = [Node(row, form[1:], None, None) for row, (kind, _, says, _) in enumerate(code.rows) if kind != "stop"
              for form in says]

    def moves(row, part):
        return [(label, ahead, pull.total(part)) for label, ahead, pull in steps_to[row]]

    nodes = by_row(len(code.rows), nodes_found(code.width, starts, moves))
    return [_few(code, row, [node.vector for node in found]) for row, found in enumerate(nodes)]


def _steps_to_rows(code):
    """For each row the list of (label, row ahead of it, linear parts of the registers behind over those ahead)."""
    found = [[] for _ in code.rows]
    for row, (_, nexts, _, changes) in enumerate(code.rows):
        size = code.counts[row]
        for label, behind in enumerate(nexts):
            pull = Blend(code.width, size, [form[1:size + 1] for form in changes[label]])
            found[behind].append((label, row, pull))
    return found


def _few(code, row, parts):
    return [parts[index] for index in picked(code.width, code.counts[row], parts)]
