"""Programs with looks: rows at which a guess is looked at, and what goes on from there."""

from leastkeep.errors import NoGuess
from leastkeep.programs import kind_and_nexts, with_nexts
from leastkeep.stairs import odd_inverse, valuation
from leastkeep.values import is_form, is_sequence, is_within, lowered, product_of

MOST_GUESSES = 6


class Guessed:
    """The rows of a program, and behind them a look for each guess: a row that says the form of the guess.

    Each step that leads to a row with looks leads to the first of them instead.
    """

    def __init__(self, program, guesses):
        self.width = program.width
        self.variables = program.variables
        self.first_look = len(program.rows)
        self.spots = [row for row, _ in guesses]
        self.forms = [lowered(form, program.width) for _, form in guesses]
        into = list(range(self.first_look))
        looks = []
        for index in reversed(list(range(len(guesses)))):
            looks.append(("say", self.forms[index], into[self.spots[index]]))
            into[self.spots[index]] = self.first_look + index
        self.rows = [with_nexts(item, tuple([into[behind] for behind in kind_and_nexts(item)[1]]))
                     for item in program.rows] + looks[::-1]


class Cut:
    """Of the vectors that come to a look, what goes on: sums of multiples in which the form of the look is 0.

    A vector is 1 and values, or 0 and a difference of values. As long as no
    sum with 1 is found, there is no state that goes on, so nothing does.
    """

    def __init__(self, width, form):
        self.width = width
        self.form = form
        self.pivot = None
        self.head = None
        self.held = []

    def passed(self, vector):
        """The list of the vectors that go on as soon as a vector has come, and did not before."""
        self.held.extend(self._freed(vector))
        found = []
        if self.head is None:
            self.head = self._first_head()
            if self.head is None:
                return []
            found.append(self.head)
        found.extend([self._less(held, held[0], self.head) for held in self.held])
        self.held = []
        return found

    def _first_head(self):
        """A sum with 1 of what is held, in which the form is 0, or None."""
        for vector in self.held:
            if vector[0] & 1:
                factor = odd_inverse(vector[0], (1 << self.width) - 1)
                return lowered([factor * number for number in vector], self.width)
        return None

    def _freed(self, vector):
        """What a vector adds to the sums of multiples in which the form is 0.

        The vector whose value the fewest factors 2 divide is the pivot: all
        others are lessened by its multiples, and it is multiplied itself.
        """
        if not self._value(vector):
            return [vector]
        found = []
        if self.pivot is None or valuation(self._value(vector)) < valuation(self._value(self.pivot)):
            vector, self.pivot = self.pivot, vector
            many = 1 << (self.width - valuation(self._value(self.pivot)))
            found.append(lowered([many * number for number in self.pivot], self.width))
        if vector is not None:
            worth = self._value(self.pivot)
            exponent = valuation(worth)
            inverse = odd_inverse(worth >> exponent, (1 << self.width) - 1)
            found.append(self._less(vector, (self._value(vector) >> exponent) * inverse, self.pivot))
        return found

    def _value(self, vector):
        return product_of(self.form, vector, self.width)

    def _less(self, vector, many, other):
        """A vector less a multiple of another one."""
        return lowered([number - many * less for number, less in zip(vector, other)], self.width)


def check_guesses(program, guesses):
    """Raise NoGuess if a value is no list or tuple of guesses."""
    if not is_sequence(guesses, 0, MOST_GUESSES):
        raise NoGuess(-1)
    for index, guess in enumerate(guesses):
        if not _is_guess(program, guess):
            raise NoGuess(index)


def _is_guess(program, guess):
    return (isinstance(guess, tuple) and len(guess) == 2 and is_within(guess[0], 0, len(program.rows) - 1)
            and is_form(guess[1], len(program.variables)))
