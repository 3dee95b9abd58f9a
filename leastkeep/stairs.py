"""Rows in steps, to which further rows are added one by one."""

from leastkeep.values import lowered


def valuation(number):
    """The exponent of the greatest power of 2 that divides a number other than 0."""
    return (number & -number).bit_length() - 1


def odd_inverse(odd, mask):
    """The number whose product with an odd number is 1, modulo mask + 1."""
    found = odd
    while (found * odd) & mask != 1:
        found = (found * (2 - found * odd)) & mask
    return found


def pivoted(row, column, width):
    """The row times an odd number, so that a power of 2 stands in a column where the row is not 0."""
    mask = (1 << width) - 1
    factor = odd_inverse(row[column] >> valuation(row[column]), mask)
    return tuple([(factor * number) & mask for number in row])


class Stairs:
    """The module of the rows that were taken, as rows in steps.

    Only the first `lead` columns have pivots. What stands behind them is
    carried along, so that it tells how each step was made.
    """

    def __init__(self, width, lead):
        self.width = width
        self.lead = lead
        self.steps = {}

    def rest(self, row, behind=-1):
        """The row less multiples of the steps, smaller than each pivot in its column; only columns behind one count."""
        mask = (1 << self.width) - 1
        for column in sorted(self.steps):
            step = self.steps[column]
            many = row[column] // step[column]
            if many and column > behind:
                # Ahead of its pivot a step has only zeros.
                row = row[:column] + tuple([(number - many * less) & mask
                                            for number, less in zip(row[column:], step[column:])])
        return row

    def has(self, row):
        """Whether a row is an element of the module, as far as the leading columns tell."""
        return self.first_column(self.rest(lowered(row, self.width))) is None

    def first_column(self, row):
        """The first of the leading columns in which a row is not 0, or None."""
        for column in range(self.lead):
            if row[column]:
                return column
        return None

    def take(self, row):
        """Add a row to the module; tell whether it has become larger."""
        row = self.rest(lowered(row, self.width))
        if self.first_column(row) is None:
            return False
        waiting = [row]
        while waiting:
            row = self.rest(waiting.pop())
            column = self.first_column(row)
            if column is not None:
                waiting.extend(self._put(row, column))
        return True

    def _put(self, row, column):
        """Make a row a step; tell the rows that are to be looked at again.

        These are the step that stood there, and the multiple of the new one
        that is 0 in its column: later steps must have it as their sum.
        """
        row = pivoted(row, column, self.width)
        again = [self.steps[column]] if column in self.steps else []
        self.steps[column] = row
        factor = (1 << self.width) // row[column]
        again.append(lowered([factor * number for number in row], self.width))
        return again

    def echelon_rows(self):
        """The list of the steps, in the columns of later pivots smaller than these."""
        return [self.rest(self.steps[column], column) for column in sorted(self.steps)]


def stairs_of(width, lead, rows):
    """The stairs that have taken some rows."""
    stairs = Stairs(width, lead)
    for row in rows:
        stairs.take(row)
    return stairs
