"""Codes that follow a program, whatever rows they have; rows that are alike become one."""

from leastkeep.alike import classes_by_forms, forms_among
from leastkeep.building import Passage, Spot, code_row
from leastkeep.codes import Code
from leastkeep.errors import NotOver
from leastkeep.hulls import all_hulls
from leastkeep.machines import as_code
from leastkeep.pairs import first_stray
from leastkeep.programs import kind_and_nexts
from leastkeep.wants import all_wanted


def strays(program, code):
    """None if a code follows a program, otherwise a shortest tuple on which it does not."""
    if not isinstance(code, Code) or program.width != code.width:
        raise NotOver(-1)
    return first_stray(as_code(program), code)


def joined(program):
    """A code that follows the program, with one row for each class of rows that runs reach, and the least registers."""
    hulls = all_hulls(program)
    forms = forms_among(program, hulls)
    groups = [rows for rows in classes_by_forms(program, hulls, forms) if hulls[rows[0]] is not None]
    wants = all_wanted(program)
    spots = [Spot(program.width, hulls[rows[0]], wants[rows[0]]) for rows in groups]
    into = {row: (at, Passage(spots[at], forms[row, rows[0]])) for at, rows in enumerate(groups) for row in rows}
    made = [code_row(program, rows[0], spot, [into[behind] for behind in kind_and_nexts(program.rows[rows[0]])[1]])
            for rows, spot in zip(groups, spots)]
    start = into[0][1].registers_for((1,) + (0,) * len(program.variables))
    return Code(program.width, [len(spot.parts) for spot in spots], made, start)
