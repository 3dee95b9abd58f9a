"""Functions made ready to be executed, and calls that are executed row by row."""

from leastkeep.errors import NoFunction, NoRun
from leastkeep.graphs import fits, next_row
from leastkeep.programs import kind_and_nexts, place_of, said_at, stepped
from leastkeep.values import is_within, product_of


class Body:
    """A function of a program: its variables, of which the first ones are its inlets, and its rows.

    A vector has a head ahead of the values of the variables: 1, or 0 ahead of
    what values differ by. `called` tells the number of the function that a
    row calls; a row that returns has a row behind it that is never executed.
    """

    def __init__(self, program, function):
        _, parameters, variables, rows = program.functions[function]
        numbers = {item[0]: number for number, item in enumerate(program.functions)}
        self.width = program.width
        self.inlets = len(parameters)
        self.variables = parameters + variables
        self.rows = rows
        self.called = {row: numbers[item[2]] for row, item in enumerate(rows) if item[0] == "call"}
        self.graph = [("go", (row,)) if item[0] == "return" else kind_and_nexts(item) for row, item in enumerate(rows)]

    def first_vector(self, vector):
        """The vector with which the function begins, for one of the head and the values of the inlets."""
        return vector + (0,) * (len(self.variables) - self.inlets)

    def handed_over(self, row, vector):
        """The head and the values of the inlets of the function that a row calls."""
        return vector[:1] + tuple([product_of(form, vector, self.width) for form in self.rows[row][3]])

    def taken_back(self, row, vector, result):
        """The vector behind a call, for that ahead of it and the result."""
        place = place_of(self, self.rows[row])
        return vector[:place] + (result,) + vector[place + 1:]

    def returned(self, row, vector):
        """The result of a row that returns."""
        return product_of(self.rows[row][1], vector, self.width)


class Frame:
    """An open call: a function, the row that is executed, or that calls, and its vector."""

    def __init__(self, function, vector):
        self.function = function
        self.row = 0
        self.vector = vector


class Execution:
    """A function that is executed row by row; what is asked for is taken times the head, as differences need it."""

    def __init__(self, bodies, function, vector):
        self.bodies = bodies
        self.head = vector[0]
        self.frames = []
        self.result = None
        self.told = []
        self._begin(function, vector)

    def takes(self, number):
        """Whether a row is left that can be executed with a number."""
        if not self.frames:
            return False
        frame = self.frames[-1]
        return fits(self.bodies[frame.function].graph[frame.row], number)

    def go(self, number):
        """Execute a row."""
        frame = self.frames[-1]
        body = self.bodies[frame.function]
        kind = body.rows[frame.row][0]
        if kind == "call":
            self._begin(body.called[frame.row], body.handed_over(frame.row, frame.vector))
        elif kind == "return":
            self._end(body.returned(frame.row, frame.vector))
        else:
            self.told.extend(said_at(body, frame.row, frame.vector))
            frame.vector = stepped(body, frame.row, frame.vector, number * self.head)
            frame.row = next_row(body.graph, frame.row, number)

    def _begin(self, function, vector):
        self.frames.append(Frame(function, self.bodies[function].first_vector(vector)))

    def _end(self, result):
        self.frames.pop()
        if not self.frames:
            self.result = result
            return
        frame = self.frames[-1]
        body = self.bodies[frame.function]
        frame.vector = body.taken_back(frame.row, frame.vector, result)
        frame.row = next_row(body.graph, frame.row, 0)


def bodies_of(program):
    """The list of all functions of a program, made ready."""
    return [Body(program, function) for function in range(len(program.functions))]


def check_function(program, function):
    """Raise NoFunction for a value that is not the number of a function."""
    if not is_within(function, 0, len(program.functions) - 1):
        raise NoFunction(function)


def numbers_done(execution, numbers):
    """Execute a row for each number; raise NoRun if they are no run."""
    if not isinstance(numbers, (list, tuple)):
        raise NoRun(-1)
    for index, number in enumerate(numbers):
        if not execution.takes(number):
            raise NoRun(index)
        execution.go(number)
