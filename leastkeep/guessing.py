"""Codes that trust guesses, and go on as codes that trust nothing where one of them does not hold."""

from leastkeep.codes import Code, are_forms, code_graph, code_said, code_stepped
from leastkeep.errors import NoGuessCode, NoRun
from leastkeep.gauges import gauged_code, gauges_of
from leastkeep.graphs import fits, next_row
from leastkeep.guesses import hulls_in_step, wants_in_step
from leastkeep.hulls import all_hulls
from leastkeep.looks import Guessed, check_guesses
from leastkeep.values import is_sequence, lowered, product_of
from leastkeep.wants import all_wanted


class GuessCode:
    """A quick code with looks, a plain one, and for each look the registers with which the plain one goes on."""

    def __init__(self, quick, plain, backs):
        _check_codes(quick, plain)
        _check_backs(quick, plain, backs)
        self.quick = quick
        self.plain = plain
        self.backs = tuple([tuple([lowered(form, quick.width) for form in forms]) for forms in backs])

    def __eq__(self, other):
        return (isinstance(other, GuessCode) and self.quick == other.quick and self.plain == other.plain
                and self.backs == other.backs)


def run_guessed(code, numbers):
    """Execute a row for each number; tell the row behind them, the registers, what was said, and the look that failed.
    """
    if not isinstance(numbers, (list, tuple)):
        raise NoRun(-1)
    walk = Walk(code)
    said = []
    for index, number in enumerate(numbers):
        if not fits(walk.graph[walk.row], number):
            raise NoRun(index)
        said.extend(code_said(walk.code, walk.row, walk.vector))
        walk.go(number)
    return (walk.row, walk.vector[1:], said, walk.failed)


def guess_code(program, guesses):
    """A GuessCode that says what the program says, with as few registers as there can be."""
    check_guesses(program, guesses)
    guessed = Guessed(program, guesses)
    hulls = hulls_in_step(guessed)
    wants = all_wanted(program)
    quick = gauges_of(program.width, hulls, wants_in_step(guessed, wants))
    plain = gauges_of(program.width, all_hulls(program), wants)
    backs = [_back(quick[guessed.first_look + index], plain[row]) for index, row in enumerate(guessed.spots)]
    return GuessCode(gauged_code(guessed, quick), gauged_code(program, plain), backs)


class Walk:
    """Where a GuessCode is: in its quick code, never at a look, or, once a look has failed, in its plain one."""

    def __init__(self, code):
        self.whole = code
        self.failed = None
        self._enter(code.quick, 0, (1,) + code.quick.start)

    def go(self, number):
        """Execute a row, and the looks to which it leads."""
        self._execute(number)
        while self.failed is None and self.row >= len(self.whole.plain.rows):
            if code_said(self.code, self.row, self.vector) == [0]:
                self._execute(0)
            else:
                self._fail()

    def _execute(self, number):
        self.vector = code_stepped(self.code, self.row, self.vector, number)
        self.row = next_row(self.graph, self.row, number)

    def _fail(self):
        """Go on by the plain code."""
        many = len(self.whole.plain.rows)
        self.failed = self.row - many
        forms = self.whole.backs[self.failed]
        registers = [product_of(form, self.vector, self.code.width) for form in forms]
        self._enter(self.whole.plain, last_row(self.whole.quick, many, self.row), (1,) + tuple(registers))

    def _enter(self, code, row, vector):
        self.code = code
        self.graph = code_graph(code)
        self.row = row
        self.vector = vector


def last_row(quick, many, row):
    """The row to which a look leads at last, where rows from `many` on are looks."""
    while row >= many:
        row = quick.rows[row][1][0]
    return row


def _back(gauge, plain):
    """The registers of a plain code, as forms over those at a look; where no step leads, it has no registers."""
    return () if gauge is None else tuple([gauge.form_over(part) for part in plain.parts])


def _check_codes(quick, plain):
    if not isinstance(quick, Code):
        raise NoGuessCode("quick", -1)
    if not isinstance(plain, Code) or plain.width != quick.width or len(plain.rows) > len(quick.rows):
        raise NoGuessCode("plain", -1)
    many = len(plain.rows)
    for row in range(many, len(quick.rows)):
        kind, nexts, says, _ = quick.rows[row]
        if kind != "go" or len(says) != 1 or many <= nexts[0] <= row:
            raise NoGuessCode("quick", row)


def _check_backs(quick, plain, backs):
    many = len(plain.rows)
    looks = len(quick.rows) - many
    if not is_sequence(backs, looks, looks):
        raise NoGuessCode("backs", -1)
    for index, forms in enumerate(backs):
        size = plain.counts[last_row(quick, many, many + index)]
        if not are_forms(forms, size, quick.counts[many + index]):
            raise NoGuessCode("backs", index)
