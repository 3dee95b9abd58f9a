"""Codes: registers at each row, which change and are said by affine forms."""

from leastkeep.errors import NoCode
from leastkeep.graphs import check_numbers, next_row
from leastkeep.values import is_form, is_sequence, is_width, is_within, lowered, product_of, wrong_integer

MOST_ROWS = 200
MOST_REGISTERS = 64
NEXTS = {"go": (1, 1), "ask": (1, 1), "choose": (1, 6), "stop": (0, 0)}


class Code:
    """Rows with registers, modulo 2 ** width."""

    def __init__(self, width, counts, rows, start):
        _check_head(width, counts, rows, start)
        for row, item in enumerate(rows):
            _check_row(counts, row, item)
        self.width = width
        self.counts = tuple(counts)
        self.rows = tuple([_lowered_row(item, width) for item in rows])
        self.start = lowered(start, width)

    def __eq__(self, other):
        return (isinstance(other, Code) and self.width == other.width and self.counts == other.counts
                and self.rows == other.rows and self.start == other.start)


def run_code(code, numbers):
    """Execute a row for each number, from row 0 on; tell the row behind them, the registers and what was said."""
    graph = code_graph(code)
    check_numbers(graph, 0, numbers)
    row = 0
    vector = (1,) + code.start
    said = []
    for number in numbers:
        said.extend(code_said(code, row, vector))
        vector = code_stepped(code, row, vector, number)
        row = next_row(graph, row, number)
    return (row, vector[1:], said)


def code_graph(code):
    """The list of the kinds of all rows and of the rows that come next."""
    return [(item[0], item[1]) for item in code.rows]


def code_said(code, row, vector):
    """The list of what a row says, ahead of which stand 1 and the registers."""
    return [product_of(form, vector, code.width) for form in code.rows[row][2]]


def code_stepped(code, row, vector, number):
    """What stands behind a row: 1 and the registers of the next row."""
    kind = code.rows[row][0]
    changes = code.rows[row][3]
    forms = changes[number] if kind == "choose" else changes[0]
    ahead = vector + (number,) if kind == "ask" else vector
    return vector[:1] + tuple([product_of(form, ahead, code.width) for form in forms])


def _check_head(width, counts, rows, start):
    if not is_width(width):
        raise NoCode(-1, "width", -1)
    if not is_sequence(rows, 1, MOST_ROWS):
        raise NoCode(-1, "rows", -1)
    if not is_sequence(counts, len(rows), len(rows)):
        raise NoCode(-1, "counts", -1)
    for index, many in enumerate(counts):
        if not is_within(many, 0, MOST_REGISTERS):
            raise NoCode(-1, "counts", index)
    if not isinstance(start, tuple) or wrong_integer(start, counts[0]) is not None:
        raise NoCode(-1, "start", -1)


def _check_row(counts, row, item):
    if not isinstance(item, tuple) or len(item) != 4:
        raise NoCode(row, "row", -1)
    kind, nexts, says, changes = item
    if not isinstance(kind, str) or kind not in NEXTS:
        raise NoCode(row, "kind", -1)
    _check_nexts(row, kind, nexts, len(counts))
    _check_says(row, says, counts[row])
    size = counts[row] + 1 if kind == "ask" else counts[row]
    _check_changes(row, changes, [counts[following] for following in nexts], size)


def _check_nexts(row, kind, nexts, many):
    least, most = NEXTS[kind]
    if not isinstance(nexts, tuple) or not least <= len(nexts) <= most:
        raise NoCode(row, "next", -1)
    for index, following in enumerate(nexts):
        if not is_within(following, 0, many - 1):
            raise NoCode(row, "next", index)


def _check_says(row, says, size):
    if not isinstance(says, tuple):
        raise NoCode(row, "says", -1)
    for index, form in enumerate(says):
        if not is_form(form, size):
            raise NoCode(row, "says", index)


def _check_changes(row, changes, counts, size):
    if not isinstance(changes, tuple) or len(changes) != len(counts):
        raise NoCode(row, "changes", -1)
    for index, forms in enumerate(changes):
        if not are_forms(forms, counts[index], size):
            raise NoCode(row, "changes", index)


def are_forms(forms, many, size):
    """Whether a value is a tuple of `many` forms over `size` registers."""
    return (isinstance(forms, tuple) and len(forms) == many
            and all([is_form(form, size) for form in forms]))


def _lowered_row(item, width):
    kind, nexts, says, changes = item
    lowered_says = tuple([lowered(form, width) for form in says])
    lowered_changes = tuple([tuple([lowered(form, width) for form in forms]) for forms in changes])
    return (kind, nexts, lowered_says, lowered_changes)
