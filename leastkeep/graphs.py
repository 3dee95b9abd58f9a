"""Runs through a graph: a list with the kind of each row, as codes have it, and the rows that come next."""

from leastkeep.errors import NoRun
from leastkeep.values import is_integer, is_within


def are_nexts(value, least, most, many):
    """Whether a value is a tuple of `least` to `most` numbers of the rows, of which there are `many`."""
    return (isinstance(value, tuple) and least <= len(value) <= most
            and all([is_within(row, 0, many - 1) for row in value]))


def check_numbers(graph, row, numbers):
    """Raise NoRun if numbers are no way on from a row."""
    index = wrong_number(graph, row, numbers)
    if index is not None:
        raise NoRun(index)


def wrong_number(graph, row, numbers):
    """Tell -1 for no list or tuple, or the index of the first item that fits no row, or None for a way on."""
    if not isinstance(numbers, (list, tuple)):
        return -1
    for index, number in enumerate(numbers):
        if not fits(graph[row], number):
            return index
        row = next_row(graph, row, number)
    return None


def fits(exits, number):
    """Whether a number is one that a row can be executed with."""
    kind, nexts = exits
    if kind == "ask":
        return is_integer(number)
    return is_within(number, 0, len(nexts) - 1)


def next_row(graph, row, number):
    """The row behind a row: only a label tells between several."""
    kind, nexts = graph[row]
    if kind == "choose":
        return nexts[number]
    return nexts[0]


def rows_on_way(graph, row, numbers):
    """The list of the rows that a way on executes."""
    found = []
    for number in numbers:
        found.append(row)
        row = next_row(graph, row, number)
    return found


def exits_of(graph, row, asked):
    """The list of (number, next row) for all that can happen at a row, where of all numbers only some are asked."""
    kind, nexts = graph[row]
    if kind == "ask":
        return [(number, nexts[0]) for number in asked]
    return list(enumerate(nexts))


def shape_of(exits):
    """What tells which numbers fit a row: whether it asks, and how many labels it has (one, if only 0 fits)."""
    kind, nexts = exits
    return (kind == "ask", len(nexts))


def number_for_one(exits, others):
    """A number that fits one of two rows alone, where all labels of one are labels of the other."""
    asks, many = shape_of(exits)
    asks_too, less = shape_of(others)
    if asks:
        return less
    if asks_too:
        return many
    return min(many, less)
