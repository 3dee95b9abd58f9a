"""Modules of rows modulo a power of two."""

from leastkeep.errors import NoRows
from leastkeep.stairs import pivoted, stairs_of, valuation
from leastkeep.values import is_width, is_within, lowered, unit_row, wrong_integer


def echelon(width, size, rows):
    """The rows in steps that have the same module; just one list for each module."""
    _check_rows(width, size, "rows", rows)
    return stairs_of(width, size, rows).echelon_rows()


def count(width, size, rows):
    """How many rows the module has."""
    _check_rows(width, size, "rows", rows)
    return 1 << _exponent(stairs_of(width, size, rows))


def is_in(width, size, rows, row):
    """Whether a row is an element of the module of some rows."""
    _check_rows(width, size, "rows", rows)
    _check_row(size, row)
    return stairs_of(width, size, rows).has(row)


def coefficients(width, size, rows, row):
    """Factors, one for each row, with which the sum of the rows is this row, or None."""
    _check_rows(width, size, "rows", rows)
    _check_row(size, row)
    chosen = picked(width, size, rows)
    marked = [tuple(rows[index]) + unit_row(at, len(chosen)) for at, index in enumerate(chosen)]
    stairs = stairs_of(width, size, marked)
    rest = stairs.rest(lowered(row, width) + (0,) * len(chosen))
    if stairs.first_column(rest) is not None:
        return None
    factors = dict(zip(chosen, lowered([-number for number in rest[size:]], width)))
    return tuple([factors.get(index, 0) for index in range(len(rows))])


def kernel(width, size, rows):
    """The echelon of all rows whose product with each of some rows is 0."""
    _check_rows(width, size, "rows", rows)
    return _kernel_of(width, size, stairs_of(width, size, rows).echelon_rows())


def meet(width, size, one, other):
    """The echelon of what two modules have in common."""
    _check_rows(width, size, "one", one)
    _check_rows(width, size, "other", other)
    both = kernel(width, size, one) + kernel(width, size, other)
    return kernel(width, size, both)


def generators(width, size, rows):
    """The least number of rows that have the same module."""
    return len(picked(width, size, rows))


def picked(width, size, rows):
    """The ascending indexes of the fewest of some rows that have the same module.

    Rows have the whole module as soon as they have it together with the
    doubles of its rows.
    """
    _check_rows(width, size, "rows", rows)
    stairs = stairs_of(width, size, [[2 * number for number in row] for row in rows])
    return [index for index, row in enumerate(rows) if stairs.take(row)]


def smith(width, table):
    """The exponents of the powers of 2 to which a table can be brought."""
    _check_table(width, table)
    rows = [lowered(row, width) for row in table]
    found = []
    place = _least_place(rows)
    while place is not None:
        found.append(valuation(rows[place[0]][place[1]]))
        rows = _cleared(rows, place, width)
        place = _least_place(rows)
    return found


def _exponent(stairs):
    steps = stairs.steps
    return sum([stairs.width - valuation(steps[column][column]) for column in steps])


def _kernel_of(width, size, rows):
    """The kernel of rows: how the columns must be summed up, so that nothing is left."""
    marked = [tuple([row[place] for row in rows]) + unit_row(place, size) for place in range(size)]
    found = stairs_of(width, len(rows) + size, marked).echelon_rows()
    return [row[len(rows):] for row in found if not any(row[:len(rows)])]


def _least_place(rows):
    """Where in a table a number stands that the fewest factors 2 divide, or None if all are 0."""
    best = None
    for at, row in enumerate(rows):
        for column, number in enumerate(row):
            if number and (best is None or valuation(number) < valuation(rows[best[0]][best[1]])):
                best = (at, column)
    return best


def _cleared(rows, place, width):
    """The rows but one, less multiples of it: 0 in its column, which all its other numbers then can leave, too."""
    at, column = place
    lead = pivoted(rows[at], column, width)
    others = rows[:at] + rows[at + 1:]
    factors = [row[column] // lead[column] for row in others]
    return [lowered([number - factor * less for number, less in zip(row, lead)], width)
            for row, factor in zip(others, factors)]


def _check_rows(width, size, part, rows):
    if not is_width(width):
        raise NoRows("width", -1)
    if not is_within(size, 0, size):
        raise NoRows("size", -1)
    _check_list(size, part, rows)


def _check_list(size, part, rows):
    if not isinstance(rows, (list, tuple)):
        raise NoRows(part, -1)
    for index, row in enumerate(rows):
        if wrong_integer(row, size) is not None:
            raise NoRows(part, index)


def _check_row(size, row):
    if wrong_integer(row, size) is not None:
        raise NoRows("row", -1)


def _check_table(width, table):
    if not is_width(width):
        raise NoRows("width", -1)
    if not isinstance(table, (list, tuple)):
        raise NoRows("table", -1)
    if len(table) > 0:
        size = len(table[0]) if isinstance(table[0], (list, tuple)) else 0
        _check_list(size, "table", table)
