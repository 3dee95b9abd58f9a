"""Rows of numbers modulo a power of two, packed into one integer each: all places are reckoned at once."""

# So many bits are left free in each lane that sums of 2 ** SPARE products do not run over.
SPARE = 10


class Lanes:
    """How rows of `size` numbers modulo 2 ** width are packed: place 0 stands in the lowest bits."""

    def __init__(self, width, size):
        self.mask = (1 << width) - 1
        self.lane = 2 * width + SPARE
        self.shifts = [self.lane * place for place in range(size)]
        self.whole = self.packed([self.mask] * size)

    def packed(self, row):
        """The integer for a row, whose numbers may be any."""
        found = 0
        for number in reversed(list(row)):
            found = (found << self.lane) | (number & self.mask)
        return found

    def unpacked(self, whole):
        """The tuple of the numbers that are packed in an integer; what ran over into free bits is left out."""
        return tuple([(whole >> shift) & self.mask for shift in self.shifts])


class Blend:
    """Some rows, ready for sums of their multiples."""

    def __init__(self, width, size, rows):
        self.lanes = Lanes(width, size)
        self.rows = [self.lanes.packed(row) for row in rows]

    def total(self, factors):
        """The sum of the rows, each times its factor; these are from 0 to 2 ** width - 1."""
        found = 0
        for factor, row in zip(factors, self.rows):
            if factor:
                found += factor * row
        return self.lanes.unpacked(found)
