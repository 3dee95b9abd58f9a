"""Linear changes of vectors modulo a power of two that are done again and again."""

from math import lcm

from leastkeep.lanes import Blend
from leastkeep.values import unit_row


class Turn:
    """A linear change: column number k is what becomes of the vector that is 1 at place k, and 0 elsewhere."""

    def __init__(self, width, columns):
        self.width = width
        self.columns = columns
        self.blend = Blend(width, len(columns), columns)

    def applied(self, vector):
        """What becomes of a vector."""
        return self.blend.total(vector)

    def after(self, other):
        """The turn that does another one, and then this one."""
        return Turn(self.width, [self.applied(column) for column in other.columns])


def turned(turn, vector, many):
    """What becomes of a vector if a turn is done many times, however many."""
    many = _as_many(turn, many)
    while many:
        if many & 1:
            vector = turn.applied(vector)
        many = many >> 1
        if many:
            turn = turn.after(turn)
    return vector


def power(turn, many):
    """The turn that does another one many times."""
    size = len(turn.columns)
    return Turn(turn.width, [turned(turn, unit_row(place, size), many) for place in range(size)])


class Cycle:
    """Where the vectors that become of a vector come again.

    ahead is the number of turns behind which the first of them stands that
    comes again; the period is odd << exponent.
    """

    def __init__(self, turn, vector):
        there = turned(turn, vector, _most_ahead(turn))
        self.exponent = _exponent(turn, there)
        self.odd = _odd_part(power(turn, 1 << self.exponent), there)
        self.period = self.odd << self.exponent
        self.ahead = _times_ahead(turn, vector, turned(turn, vector, self.period))


def _most_ahead(turn):
    """So many turns at most are ahead of those that come again.

    What fades modulo 2 has faded behind as many turns as there are columns;
    then it is twice something that fades likewise, and so on.
    """
    return len(turn.columns) * turn.width


def _odd_periods(turn):
    """A multiple of the odd parts of all periods: each is the least multiple of divisors of some 2 ** size - 1."""
    found = 1
    for size in range(1, len(turn.columns) + 1):
        found = lcm(found, (1 << size) - 1)
    return found


def _as_many(turn, many):
    """A number of turns that do the same, which is not too great.

    Tables of k columns have periods modulo 2 that are an odd part times at most 2 ** k; each further
    bit of the numbers doubles the period at most.
    """
    ahead = _most_ahead(turn)
    period = _odd_periods(turn) << (turn.width + len(turn.columns))
    return many if many < ahead + period else ahead + (many - ahead) % period


def _exponent(turn, vector):
    """How many factors 2 the period has with which a vector comes again."""
    turn = power(turn, _odd_periods(turn))
    found = 0
    while turn.applied(vector) != vector:
        turn = turn.after(turn)
        found += 1
    return found


def _odd_part(turn, vector):
    """Behind how many turns, done at once, a vector comes again: an odd number of them."""
    found = 1
    there = turn.applied(vector)
    while there != vector:
        there = turn.applied(there)
        found += 1
    return found


def _times_ahead(turn, near, far):
    """Behind how many turns two vectors become equal, the one of which is behind a period more of turns."""
    found = 0
    while near != far:
        near, far = turn.applied(near), turn.applied(far)
        found += 1
    return found
