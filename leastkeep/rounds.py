"""Rounds that are done again and again from a state, and ahead of which of them a form has some value."""

from leastkeep.lanes import Blend
from leastkeep.programs import said_at, stepped
from leastkeep.turns import Turn, power, turned
from leastkeep.values import lowered, product_of, unit_row


class Track:
    """A round made ready: the turn of 1 and the values that it does, and the forms, ahead of it, that it says."""

    def __init__(self, program, rows, numbers, state):
        self.width = program.width
        self.start = (1,) + lowered(state, program.width)
        size = len(self.start)
        units = [_done(program, rows, numbers, unit_row(place, size)) for place in range(size)]
        self.turn = Turn(program.width, [vector for vector, _ in units])
        self.forms = [tuple([said[at] for _, said in units]) for at in range(len(units[0][1]))]

    def ahead_of(self, many):
        """1 and the values ahead of a round with a number."""
        return turned(self.turn, self.start, many)

    def first_said(self, many):
        """The list of the first numbers, at least as many as asked for, that are said if the round is done for ever."""
        blend = Blend(self.width, len(self.forms), [tuple([form[place] for form in self.forms])
                                                    for place in range(len(self.start))])
        found = []
        vector = self.start
        while len(found) < many:
            found.extend(blend.total(vector))
            vector = self.turn.applied(vector)
        return found


def _done(program, rows, numbers, vector):
    """What becomes of a vector in a round, and what is said; what is asked for is taken times the first number."""
    said = []
    head = vector[0]
    for row, number in zip(rows, numbers):
        said.extend(said_at(program, row, vector))
        vector = stepped(program, row, vector, number * head)
    return (vector, said)


class Stride:
    """Some rounds that are done at once, and how a form changes with them.

    Behind i strides from a vector a form is the sum of its binomial
    coefficients of i, each times a difference: the first ones, as many as
    there are columns, make up all later ones as sums of multiples.
    """

    def __init__(self, turn, form):
        self.turn = turn
        forms = [form]
        for _ in turn.columns:
            forms.append(self._changed(forms[-1]))
        self.form = form
        self.blend = Blend(turn.width, len(forms), [tuple([row[place] for row in forms])
                                                    for place in range(len(form))])

    def doubled(self):
        """A stride of twice as many rounds."""
        return Stride(self.turn.after(self.turn), self.form)

    def offs(self, vector, value):
        """By how much the form is off a value ahead of the strides, and a number that divides all that it changes by.

        This is a power of 2, or 0 if the form does not change.
        """
        numbers = self.blend.total(vector)
        together = 0
        for number in numbers[1:]:
            together = together | number
        return (numbers[0] - value) & self.blend.lanes.mask, together & -together

    def _changed(self, form):
        """The form of what a form changes by in a stride."""
        return lowered([product_of(form, column, self.turn.width) - less
                        for column, less in zip(self.turn.columns, form)], self.turn.width)


def hits(track, cycle, form, value):
    """Tuples (first, step): a form has a value ahead of the rounds with the numbers cycle.ahead + first + i * step.

    From round cycle.ahead on it has it ahead of no others. The rounds are
    split by the odd part of the period, then by twos. Where what the form is
    off by is no multiple of what divides all its changes, it never has it.
    """
    strides = [Stride(power(track.turn, cycle.odd), form)]
    waiting = []
    vector = track.ahead_of(cycle.ahead)
    for first in range(cycle.odd):
        waiting.append((first, 0, vector))
        vector = track.turn.applied(vector)
    found = []
    while waiting:
        first, depth, vector = waiting.pop()
        off, change = strides[depth].offs(vector, value)
        if not change:
            if not off:
                found.append((first, cycle.odd << depth))
        elif not off & (change - 1):
            if len(strides) == depth + 1:
                strides.append(strides[depth].doubled())
            waiting.append((first, depth + 1, vector))
            waiting.append((first + (cycle.odd << depth), depth + 1, strides[depth].turn.applied(vector)))
    return found
