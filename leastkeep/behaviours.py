"""The least numbers of registers, and papers that show why no code can do with fewer."""

from leastkeep.errors import NoPaper
from leastkeep.hulls import all_hulls, reaches, spanning_runs
from leastkeep.keeping import kept_parts
from leastkeep.modules import picked, smith
from leastkeep.programs import check_row
from leastkeep.runs import run
from leastkeep.values import product_of
from leastkeep.wants import all_wanted, form_of_way, is_way, spanning_ways


def least(program, row):
    """The least number of registers at a row of any code that is right for the program."""
    check_row(program, row)
    return least_numbers(program)[row]


def least_numbers(program):
    """The list of the least numbers of registers at all rows."""
    return [len(kept_parts(program.width, there, wants))
            for there, wants in zip(all_hulls(program), all_wanted(program))]


def table(program, row, paper):
    """For each run of a paper a tuple of the numbers that its ways on say behind it."""
    check_row(program, row)
    _check_paper(program, row, paper)
    runs, ways = paper
    forms = [form_of_way(program, row, numbers, index) for numbers, index in ways]
    vectors = [(1,) + run(program, numbers)[1] for numbers in runs]
    return [tuple([product_of(form, vector, program.width) for form in forms]) for vector in vectors]


def shown(program, row, paper):
    """How many registers a paper shows to be needed."""
    return len(smith(program.width, _later_less_first(table(program, row, paper))))


def paper(program, row):
    """A paper for a row that shows as many registers to be needed as `least` tells, with as many ways."""
    check_row(program, row)
    runs, ways = spanning_runs(program, row), spanning_ways(program, row)
    rows = _later_less_first(table(program, row, (runs, ways)))
    chosen_runs = picked(program.width, len(ways), rows)
    columns = [[rows[index][place] for index in chosen_runs] for place in range(len(ways))]
    chosen_ways = picked(program.width, len(chosen_runs), columns)
    return (runs[:1] + [runs[index + 1] for index in chosen_runs], [ways[place] for place in chosen_ways])


def _later_less_first(rows):
    """The later rows, each less the first one."""
    return [[number - less for number, less in zip(row, rows[0])] for row in rows[1:]]


def _check_paper(program, row, value):
    if (not isinstance(value, tuple) or len(value) != 2
            or not isinstance(value[0], list) or not isinstance(value[1], list)):
        raise NoPaper("paper", -1)
    for index, numbers in enumerate(value[0]):
        if not reaches(program, row, numbers):
            raise NoPaper("runs", index)
    for index, item in enumerate(value[1]):
        if not is_way(program, row, item):
            raise NoPaper("ways", index)
