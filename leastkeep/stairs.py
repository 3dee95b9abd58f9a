"""Rows in steps, to which further rows are added one by one."""

from leastkeep.lanes import Lanes
from leastkeep.values import lowered, unit_row


def valuation(number):
    """The exponent of the greatest power of 2 that divides a number other than 0."""
    return (number & -number).bit_length() - 1


def odd_inverse(odd, mask):
    """The number whose product with an odd number is 1, modulo mask + 1."""
    found = odd
    while (found * odd) & mask != 1:
        found = (found * (2 - found * odd)) & mask
    return found


class Stairs:
    """The module of the rows of `size` numbers that were taken, as rows in steps.

    Only the first `lead` columns have pivots. What stands behind them is
    carried along, so that it tells how each step was made. Steps are packed;
    for each column with a pivot its exponent is kept beside the step.
    """

    def __init__(self, width, lead, size):
        self.width = width
        self.lead = lead
        self.lanes = Lanes(width, size)
        self.steps = {}
        self.columns = []

    def rest(self, row):
        """The row less multiples of the steps, smaller than each pivot in its column."""
        return self.lanes.unpacked(self._rest(self.lanes.packed(row), -1))

    def has(self, row):
        """Whether a row is an element of the module, as far as the leading columns tell."""
        return self._first_column(self._rest(self.lanes.packed(row), -1)) is None

    def take(self, row):
        """Add a row to the module; tell whether it has become larger."""
        larger = False
        waiting = [self.lanes.packed(row)]
        while waiting:
            rest = self._rest(waiting.pop(), -1)
            column = self._first_column(rest)
            if column is not None:
                larger = True
                waiting.extend(self._put(rest, column))
        return larger

    def echelon_rows(self):
        """The list of the steps, in the columns of later pivots smaller than these."""
        return [self.lanes.unpacked(self._rest(self.steps[column][0], column)) for column in self.columns]

    def exponents(self):
        """The list of the exponents of all pivots."""
        return [self.steps[column][1] for column in self.columns]

    def _rest(self, row, behind):
        """A packed row less multiples of the steps whose pivots stand behind a column."""
        lanes = self.lanes
        for column in self.columns:
            step, exponent = self.steps[column]
            many = ((row >> lanes.shifts[column]) & lanes.mask) >> exponent
            if many and column > behind:
                row = (row + (lanes.mask + 1 - many) * step) & lanes.whole
        return row

    def _first_column(self, row):
        """The first of the leading columns in which a packed row is not 0, or None."""
        if not row:
            return None
        column = valuation(row) // self.lanes.lane
        return column if column < self.lead else None

    def _put(self, row, column):
        """Make a packed row a step; tell the rows that are to be looked at again.

        These are the step that stood there, and the multiple of the new one
        that is 0 in its column: later steps must have it as their sum.
        """
        lanes = self.lanes
        number = (row >> lanes.shifts[column]) & lanes.mask
        exponent = valuation(number)
        step = (odd_inverse(number >> exponent, lanes.mask) * row) & lanes.whole
        again = [self.steps[column][0]] if column in self.steps else []
        if exponent:
            again.append((step << (self.width - exponent)) & lanes.whole)
        self.steps[column] = (step, exponent)
        self.columns = sorted(list(self.steps))
        return again


def stairs_of(width, lead, rows):
    """The stairs that have taken some rows of `lead` numbers."""
    stairs = Stairs(width, lead, lead)
    for row in rows:
        stairs.take(row)
    return stairs


class Solver:
    """Tells with which factors a row is the sum of some rows of `size` numbers."""

    def __init__(self, width, size, rows):
        self.width = width
        self.size = size
        self.zeros = (0,) * len(rows)
        self.stairs = Stairs(width, size, size + len(rows))
        for at, row in enumerate(rows):
            self.stairs.take(tuple(row) + unit_row(at, len(rows)))

    def factors(self, row):
        """A tuple with a factor for each of the rows, or None if a row is no such sum."""
        rest = self.stairs.rest(tuple(row) + self.zeros)
        if any(rest[:self.size]):
            return None
        return lowered([-number for number in rest[self.size:]], self.width)
