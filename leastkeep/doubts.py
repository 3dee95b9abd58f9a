"""Whether codes that trust guesses can be shown to be right, and which guesses are worth it."""

from leastkeep.errors import NoCount, NotOver, Refused
from leastkeep.guesses import numbers_in_step
from leastkeep.guessing import GuessCode
from leastkeep.judging import check_over
from leastkeep.looks import Cut, Guessed, check_guesses
from leastkeep.machines import as_code
from leastkeep.pairs import Pairs
from leastkeep.searching import Node, Search, nodes_found
from leastkeep.values import is_from_zero, product_of
from leastkeep.wants import all_wanted


def doubt(program, guesses, code):
    """The first row or look at which a GuessCode is not shown to be right, or None."""
    check_guesses(program, guesses)
    guessed = Guessed(program, guesses)
    _check_code(program, guessed, code)
    pairs = Pairs(as_code(guessed), code.quick)
    found = _joint_nodes(guessed, pairs)
    starts = [_plain_starts(guessed, pairs, code, index, found) for index in range(len(guesses))]
    plain = Pairs(as_code(program), code.plain)
    trusted = _says_the_same(plain, [node for nodes in starts for node in nodes])
    for row, nodes in enumerate(found):
        if not all([pairs.stray_number(node) is None for node in nodes]):
            return row
        if row >= guessed.first_look and not trusted and not _says_the_same(plain, starts[row - guessed.first_look]):
            return row
    return None


def greatest_numbers(program, guesses):
    """A list of tuples (indexes, number) for all sets of guesses: the greatest number that these guesses leave."""
    check_guesses(program, guesses)
    wants = all_wanted(program)
    return [(indexes, _greatest(program, guesses, indexes, wants)) for indexes in _sets_of(len(guesses))]


def least_guesses(program, guesses, most):
    """The indexes of the first set of guesses that leaves no number greater than `most`, or None."""
    check_guesses(program, guesses)
    if not is_from_zero(most):
        raise NoCount("most")
    wants = all_wanted(program)
    for indexes in _sets_of(len(guesses)):
        number = _greatest(program, guesses, indexes, wants)
        if number is not None and number <= most:
            return indexes
    return None


def _sets_of(many):
    """The ascending tuples of indexes of all sets of guesses, smaller sets first, then in their order."""
    chosen = [tuple([index for index in range(many) if mask >> index & 1]) for mask in range(1 << many)]
    return [indexes for size in range(many + 1) for indexes in sorted(chosen) if len(indexes) == size]


def _greatest(program, guesses, indexes, wants):
    """The greatest number that some guesses leave, or None if one of them is refused."""
    guessed = Guessed(program, [guesses[index] for index in indexes])
    try:
        return max(numbers_in_step(guessed, wants))
    except Refused:
        return None


def _joint_nodes(guessed, pairs):
    """For each row and look the nodes whose vectors are 1, the values and the registers of the quick code there.

    At a look only those go on in which the form of its guess is 0.
    """
    cuts = [Cut(guessed.width, form) for form in guessed.forms]

    def moves(pair, vector):
        row = pair[0]
        going = [vector] if row < guessed.first_look else cuts[row - guessed.first_look].passed(vector)
        return [move for ahead in going for move in pairs.moves_from(pair, ahead)]

    found = [[] for _ in guessed.rows]
    for node in nodes_found(guessed.width, [pairs.start], moves):
        found[node.row[0]].append(node)
    return found


def _plain_starts(guessed, pairs, code, index, found):
    """The nodes from which the program and the plain code go on where a guess does not hold."""
    row = guessed.spots[index]
    starts = []
    for node in found[guessed.first_look + index]:
        state, registers = pairs.halves(node.row, node.vector)
        taken = tuple([product_of(form, registers, guessed.width) for form in code.backs[index]])
        starts.append(Node((row, row), state + taken, None, None))
    return starts


def _says_the_same(pairs, starts):
    """Whether both codes say the same on all ways on from some nodes."""
    search = Search(pairs.width, starts, pairs.moves_from)
    node = search.next_node()
    while node is not None:
        if pairs.stray_number(node) is not None:
            return False
        node = search.next_node()
    return True


def _check_code(program, guessed, code):
    """Raise NotOver if a value is no GuessCode whose codes stand over a program with looks, and over the program."""
    if not isinstance(code, GuessCode) or len(program.rows) != len(code.plain.rows):
        raise NotOver(-1)
    check_over(guessed, code.quick)
    check_over(program, code.plain)
