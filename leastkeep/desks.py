"""A desk: a program that is edited, and codes that are kept."""

from leastkeep.behaviours import least_numbers
from leastkeep.codes import Code
from leastkeep.errors import NoKept, NoNumber, NotOver
from leastkeep.judging import judge
from leastkeep.programs import Program, check_row, kind_and_nexts, with_nexts
from leastkeep.values import is_within


class Desk:
    """A program and a list of codes, of which each change can be taken back.

    `changes` has, for each step that can be taken back, what it was, and the
    program ahead of it, or the number and the code of one that was dropped.
    """

    def __init__(self, program):
        self.program = program
        self.numbers = least_numbers(program)
        self.codes = []
        self.changes = []

    def __eq__(self, other):
        return isinstance(other, Desk) and self.program == other.program and self.codes == other.codes

    def __len__(self):
        return len(self.codes)

    def __bool__(self):
        return True

    def __contains__(self, code):
        return isinstance(code, Code) and any([code == kept for kept in self.codes])

    def __getitem__(self, at):
        _check_number(self, at)
        return self.codes[at]

    def __iter__(self):
        raise TypeError("a desk cannot be gone through")

    def told_program(self):
        """The program as it is."""
        return self.program

    def told_numbers(self):
        """The list of the least numbers of registers at all rows of the program."""
        return list(self.numbers)

    def put(self, row, item):
        """Put a row in the place of another one; tell the numbers of the rows whose least number is another one then.
        """
        check_row(self.program, row)
        rows = list(self.program.rows)
        rows[row] = item
        return self._edit(rows)

    def add(self, item):
        """Put a row behind all others; tell its number."""
        self._edit(list(self.program.rows) + [item])
        return len(self.program.rows) - 1

    def exchange(self, row, other):
        """Give two rows the numbers of each other; tell the numbers at which the least number is another one then."""
        check_row(self.program, row)
        check_row(self.program, other)
        places = list(range(len(self.program.rows)))
        places[row], places[other] = other, row
        rows = [with_nexts(self.program.rows[at], tuple([places[behind] for behind in _nexts(self.program, at)]))
                for at in places]
        return self._edit(rows)

    def keep(self, code):
        """Keep a code; tell its number."""
        if not isinstance(code, Code):
            raise NoKept()
        self.codes.append(code)
        self.changes.append(("keep", None, None))
        return len(self.codes) - 1

    def drop(self, number):
        """Keep a code no more, and tell it."""
        _check_number(self, number)
        code = self.codes.pop(number)
        self.changes.append(("drop", number, code))
        return code

    def undo(self):
        """Take back the last change that is not yet taken back; tell whether there was one."""
        if not self.changes:
            return False
        kind, old, more = self.changes.pop()
        if kind == "keep":
            self.codes.pop()
        elif kind == "drop":
            self.codes.insert(old, more)
        else:
            self.program, self.numbers = old, more
        return True

    def standing(self, number):
        """What a kept code is to the program: another one, right, or wrong."""
        _check_number(self, number)
        try:
            found = judge(self.program, self.codes[number])
        except NotOver as wrong:
            return ("other", wrong.row)
        return ("right",) if found is None else ("wrong", found)

    def best(self):
        """The ascending numbers of the right codes that have the fewest registers, all rows together."""
        totals = [sum(code.counts) for code in self.codes]
        found = []
        for number in sorted(list(range(len(totals))), key=lambda at: totals[at]):
            if found and totals[number] > totals[found[0]]:
                return found
            if self.standing(number) == ("right",):
                found.append(number)
        return found

    def _edit(self, rows):
        """Take other rows for the program; tell the numbers at which the least number is another one then."""
        program = Program(self.program.width, self.program.variables, rows)
        numbers = least_numbers(program)
        self.changes.append(("edit", self.program, self.numbers))
        found = [row for row, (old, new) in enumerate(zip(self.numbers, numbers)) if old != new]
        self.program, self.numbers = program, numbers
        return found


def _nexts(program, row):
    return kind_and_nexts(program.rows[row])[1]


def _check_number(desk, number):
    if not is_within(number, 0, len(desk.codes) - 1):
        raise NoNumber(number)
