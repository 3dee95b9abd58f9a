"""The least code of a program."""

from leastkeep.building import least_code
from leastkeep.hulls import all_hulls
from leastkeep.wants import all_wanted


def compiled(program):
    """A right code over the program with the least number of registers at every row, for which there are takeovers."""
    return least_code(program, all_hulls(program), all_wanted(program))
