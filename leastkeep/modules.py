"""Modules of rows modulo a power of two."""

from leastkeep.errors import NoRows
from leastkeep.stairs import Solver, odd_inverse, stairs_of, valuation
from leastkeep.values import is_from_zero, is_width, lowered, unit_row, wrong_integer


def echelon(width, size, rows):
    """The rows in steps that have the same module; just one list for each module."""
    _check_rows(width, size, "rows", rows)
    return stairs_of(width, size, rows).echelon_rows()


def count(width, size, rows):
    """How many rows the module has."""
    _check_rows(width, size, "rows", rows)
    return 1 << sum([width - exponent for exponent in stairs_of(width, size, rows).exponents()])


def is_in(width, size, rows, row):
    """Whether a row is an element of the module of some rows."""
    _check_rows(width, size, "rows", rows)
    _check_row(size, row)
    return stairs_of(width, size, rows).has(row)


def coefficients(width, size, rows, row):
    """Factors, one for each row, with which the sum of the rows is this row, or None."""
    _check_rows(width, size, "rows", rows)
    _check_row(size, row)
    chosen = picked(width, size, rows)
    found = Solver(width, size, [rows[index] for index in chosen]).factors(row)
    if found is None:
        return None
    factors = dict(zip(chosen, found))
    return tuple([factors.get(index, 0) for index in range(len(rows))])


def kernel(width, size, rows):
    """The echelon of all rows whose product with each of some rows is 0."""
    _check_rows(width, size, "rows", rows)
    return _kernel_of(width, size, stairs_of(width, size, rows).echelon_rows())


def meet(width, size, one, other):
    """The echelon of what two modules have in common."""
    _check_rows(width, size, "one", one)
    _check_rows(width, size, "other", other)
    both = kernel(width, size, one) + kernel(width, size, other)
    return kernel(width, size, both)


def generators(width, size, rows):
    """The least number of rows that have the same module."""
    return len(picked(width, size, rows))


def picked(width, size, rows):
    """The ascending indexes of the fewest of some rows that have the same module.

    Rows have the whole module as soon as they have it together with the
    doubles of its rows.
    """
    _check_rows(width, size, "rows", rows)
    stairs = stairs_of(width, size, [[2 * number for number in row] for row in rows])
    return [index for index, row in enumerate(rows) if stairs.take(row)]


def smith(width, table):
    """The exponents of the powers of 2 to which a table can be brought."""
    _check_table(width, table)
    return [exponent for _, exponent, _ in stacked(width, table)]


def stacked(width, rows):
    """Tuples (column, exponent, part), exponents ascending, so that the parts times 2 ** exponent have the module.

    Each part is 1 in its column, and 0 in the columns of those ahead of it:
    so the parts belong to a basis of all rows.
    """
    rows = [lowered(row, width) for row in rows]
    found = []
    place = _least_place(rows)
    while place is not None:
        at, column = place
        exponent = valuation(rows[at][column])
        factor = odd_inverse(rows[at][column] >> exponent, (1 << width) - 1)
        part = tuple([number >> exponent for number in lowered([factor * number for number in rows[at]], width)])
        found.append((column, exponent, part))
        rows = [_cleared(row, column, part, width) for row in rows[:at] + rows[at + 1:]]
        place = _least_place(rows)
    return found


def _kernel_of(width, size, rows):
    """The kernel of rows: how the columns must be summed up, so that nothing is left."""
    marked = [tuple([row[place] for row in rows]) + unit_row(place, size) for place in range(size)]
    found = stairs_of(width, len(rows) + size, marked).echelon_rows()
    return [row[len(rows):] for row in found if not any(row[:len(rows)])]


def _least_place(rows):
    """Where in a table a number stands that the fewest factors 2 divide, or None if all are 0."""
    best = None
    for at, row in enumerate(rows):
        for column, number in enumerate(row):
            if number and (best is None or valuation(number) < valuation(rows[best[0]][best[1]])):
                best = (at, column)
    return best


def _cleared(row, column, part, width):
    """The row less a multiple of a part that is 1 in a column."""
    return lowered([number - row[column] * less for number, less in zip(row, part)], width)


def _check_rows(width, size, part, rows):
    if not is_width(width):
        raise NoRows("width", -1)
    if not is_from_zero(size):
        raise NoRows("size", -1)
    _check_list(size, part, rows)


def _check_list(size, part, rows):
    if not isinstance(rows, (list, tuple)):
        raise NoRows(part, -1)
    for index, row in enumerate(rows):
        if wrong_integer(row, size) is not None:
            raise NoRows(part, index)


def _check_row(size, row):
    if wrong_integer(row, size) is not None:
        raise NoRows("row", -1)


def _check_table(width, table):
    if not is_width(width):
        raise NoRows("width", -1)
    if not isinstance(table, (list, tuple)):
        raise NoRows("table", -1)
    if len(table) > 0:
        size = len(table[0]) if isinstance(table[0], (list, tuple)) else 0
        _check_list(size, "table", table)
