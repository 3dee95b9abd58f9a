"""All errors of the package: each derives directly from KeepError and keeps its fields as they are."""


class KeepError(ValueError):
    """The base of all errors of the package."""


class NoProgram(KeepError):
    """The width, the variables or the rows make no program."""

    def __init__(self, part, index):
        self.part = part
        self.index = index


class NoRow(KeepError):
    """A value is not the number of a row."""

    def __init__(self, row):
        self.row = row


class NoState(KeepError):
    """A value is not a state: it has no integer for each variable."""

    def __init__(self, index):
        self.index = index


class NoRun(KeepError):
    """A value is no run, or no way on."""

    def __init__(self, index):
        self.index = index


class NoCode(KeepError):
    """The width, the rows, the counts or the start make no code."""

    def __init__(self, row, part, index):
        self.row = row
        self.part = part
        self.index = index


class NotOver(KeepError):
    """A code, or another program, does not stand over a program."""

    def __init__(self, row):
        self.row = row


class NoPaper(KeepError):
    """A value is no paper for a row."""

    def __init__(self, part, index):
        self.part = part
        self.index = index


class NoForm(KeepError):
    """A value is no form over the numbers that are meant."""

    def __init__(self, index):
        self.index = index


class NoRound(KeepError):
    """A way on is no round: it is empty, or leads to another row."""


class NoCount(KeepError):
    """A value is not an integer from 0 on, or no integer where any may stand."""

    def __init__(self, part):
        self.part = part


class NoText(KeepError):
    """A value is not the text of a program."""

    def __init__(self, line):
        self.line = line


class NoRows(KeepError):
    """The width, the size or the rows make no module."""

    def __init__(self, part, index):
        self.part = part
        self.index = index


class NoAutomaton(KeepError):
    """A value is no automaton for a program."""

    def __init__(self, index):
        self.index = index


class NoCalls(KeepError):
    """The width or the functions make no program with calls."""

    def __init__(self, function, part, index):
        self.function = function
        self.part = part
        self.index = index


class NoFunction(KeepError):
    """A value is not the number of a function."""

    def __init__(self, function):
        self.function = function


class NoRecipe(KeepError):
    """A value is no recipe for a row of a code."""

    def __init__(self, index):
        self.index = index


class NoGuess(KeepError):
    """A value is no list or tuple of guesses."""

    def __init__(self, index):
        self.index = index


class Refused(KeepError):
    """A guess holds in no state that comes to it."""

    def __init__(self, index):
        self.index = index


class NoGuessCode(KeepError):
    """Two codes and the ways back do not fit together."""

    def __init__(self, part, index):
        self.part = part
        self.index = index


class NoNumber(KeepError):
    """A value is not the number of a kept code."""

    def __init__(self, number):
        self.number = number


class NoKept(KeepError):
    """A value is no code that can be kept."""
