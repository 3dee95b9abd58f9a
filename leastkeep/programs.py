"""Programs: what is handed in, and how one row of it is executed."""

from leastkeep.errors import NoProgram, NoRow
from leastkeep.graphs import are_nexts
from leastkeep.values import is_form, is_sequence, is_width, is_within, lowered, product_of, unit_row

MOST_VARIABLES = 6
MOST_ROWS = 25
MOST_NEXTS = 6
LONGEST_NAME = 8


class Program:
    """Rows that set, ask, say and choose, modulo 2 ** width."""

    def __init__(self, width, variables, rows):
        if not is_width(width):
            raise NoProgram("width", -1)
        _check_variables(variables)
        _check_rows(variables, rows)
        self.width = width
        self.variables = tuple(variables)
        self.rows = tuple([lowered_row(item, width) for item in rows])

    def __eq__(self, other):
        return (isinstance(other, Program) and self.width == other.width
                and self.variables == other.variables and self.rows == other.rows)

    def __len__(self):
        return len(self.rows)

    def __getitem__(self, at):
        check_row(self, at)
        return self.rows[at]

    def __iter__(self):
        raise TypeError("a program cannot be gone through")


def check_row(program, row):
    """Raise NoRow for a value that is not the number of a row."""
    if not is_within(row, 0, len(program.rows) - 1):
        raise NoRow(row)


def kind_and_nexts(item):
    """The kind of a row, as codes have it, and the tuple of the rows that come next."""
    kind = item[0]
    if kind == "stop":
        return (kind, ())
    if kind == "choose":
        return (kind, item[1])
    if kind == "ask":
        return (kind, (item[2],))
    return ("go", (item[-1],))


def with_nexts(item, nexts):
    """The row with other rows that come next."""
    if item[0] == "stop":
        return item
    if item[0] == "choose":
        return ("choose", nexts)
    return item[:-1] + nexts


def graph_of(program):
    """The list of the kinds of all rows and of the rows that come next."""
    return [kind_and_nexts(item) for item in program.rows]


def place_of(program, item):
    """The place, in a form, of the variable that a row sets or asks for."""
    return program.variables.index(item[1]) + 1


def forms_said(program, row):
    """The list of the forms that a row says."""
    item = program.rows[row]
    size = len(program.variables)
    if item[0] == "say":
        return [item[1]]
    if item[0] == "look":
        return [unit_row(place, size + 1) for place in range(1, size + 1)]
    return []


def said_at(program, row, vector):
    """The list of what a row says, ahead of which stand 1 and the values, or 0 and a difference of values."""
    return [product_of(form, vector, program.width) for form in forms_said(program, row)]


def stepped(program, row, vector, number):
    """What stands behind a row: 1 and the values, or, for the number 0, also 0 and a difference of values."""
    item = program.rows[row]
    if item[0] == "set":
        worth = product_of(item[2], vector, program.width)
    elif item[0] == "ask":
        worth = number & ((1 << program.width) - 1)
    else:
        return vector
    place = place_of(program, item)
    return vector[:place] + (worth,) + vector[place + 1:]


def pulled_back(program, row, form, number):
    """The form ahead of a row of what has a form behind it, where a number is asked for."""
    item = program.rows[row]
    if item[0] not in ("set", "ask"):
        return form
    at = place_of(program, item)
    rest = form[:at] + (0,) + form[at + 1:]
    other = (number,) + (0,) * len(program.variables) if item[0] == "ask" else item[2]
    return lowered([one + form[at] * two for one, two in zip(rest, other)], program.width)


def _check_variables(variables):
    if not is_sequence(variables, 1, MOST_VARIABLES):
        raise NoProgram("variables", -1)
    for index, name in enumerate(variables):
        if not is_name(name) or name in variables[:index]:
            raise NoProgram("variables", index)


def is_name(value):
    """Whether a value can be the name of a variable."""
    return (isinstance(value, str) and 1 <= len(value) <= LONGEST_NAME
            and all(["a" <= letter <= "z" for letter in value]))


def _check_rows(variables, rows):
    if not is_sequence(rows, 1, MOST_ROWS):
        raise NoProgram("rows", -1)
    for index, item in enumerate(rows):
        if not is_row(item, variables, len(rows)):
            raise NoProgram("rows", index)


def is_row(item, variables, many):
    """Whether a value is a row over some variables that leads to some of `many` rows."""
    if not isinstance(item, tuple) or not item or not isinstance(item[0], str):
        return False
    kind = item[0]
    rest = item[1:]
    if kind == "set" and len(rest) == 3:
        return (is_variable(rest[0], variables) and is_form(rest[1], len(variables))
                and is_within(rest[2], 0, many - 1))
    if kind == "ask" and len(rest) == 2:
        return is_variable(rest[0], variables) and is_within(rest[1], 0, many - 1)
    if kind == "say" and len(rest) == 2:
        return is_form(rest[0], len(variables)) and is_within(rest[1], 0, many - 1)
    if kind == "look" and len(rest) == 1:
        return is_within(rest[0], 0, many - 1)
    if kind == "choose" and len(rest) == 1:
        return are_nexts(rest[0], 1, MOST_NEXTS, many)
    return kind == "stop" and not rest


def is_variable(value, variables):
    """Whether a value is one of some variables."""
    return isinstance(value, str) and value in variables


def lowered_row(item, width):
    """The row with all numbers of its form from 0 to 2 ** width - 1."""
    if item[0] == "set":
        return ("set", item[1], lowered(item[2], width), item[3])
    if item[0] == "say":
        return ("say", lowered(item[1], width), item[2])
    return item
