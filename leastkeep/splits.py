"""Rows that are split by what an automaton knows of the labels that were chosen."""

from leastkeep.building import least_code
from leastkeep.errors import NoAutomaton
from leastkeep.hulls import all_hulls
from leastkeep.keeping import kept_parts
from leastkeep.programs import kind_and_nexts, with_nexts
from leastkeep.values import is_sequence, is_within
from leastkeep.wants import all_wanted

MOST_STATES = 8


class Split:
    """The rows of a program, one for each pair (row, state) that is reached; these are as many as that takes."""

    def __init__(self, program, automaton):
        self.width = program.width
        self.variables = program.variables
        self.pairs = _pairs_reached(program, automaton)
        places = {pair: at for at, pair in enumerate(self.pairs)}
        self.rows = []
        for row, state in self.pairs:
            behind = tuple([places[pair] for pair in _pairs_behind(program, automaton, (row, state))])
            self.rows.append(with_nexts(program.rows[row], behind))


def split_numbers(program, automaton):
    """A list of (row, state, number of registers) for all pairs that are reached, as they are found."""
    _check_automaton(program, automaton)
    split = Split(program, automaton)
    wants = all_wanted(program)
    return [pair + (len(kept_parts(program.width, there, wants[pair[0]])),)
            for pair, there in zip(split.pairs, all_hulls(split))]


def split_code(program, automaton):
    """A code with a row for each pair that is reached and as few registers there as there can be, and the pairs."""
    _check_automaton(program, automaton)
    split = Split(program, automaton)
    wants = all_wanted(program)
    return (least_code(split, all_hulls(split), [wants[row] for row, _ in split.pairs]), split.pairs)


def last_choices(program):
    """For each choose row with several labels how many registers it takes at most, if its last label is known."""
    found = []
    for row, item in enumerate(program.rows):
        if item[0] == "choose" and len(item[1]) > 1:
            known = {(row, label): label + 1 for label in range(len(item[1]))}
            numbers = split_numbers(program, [known for _ in range(len(item[1]) + 1)])
            found.append((row, max([number for _, _, number in numbers])))
    return found


def _pairs_reached(program, automaton):
    """The list of the pairs that are reached, in the order in which they are found."""
    found = [(0, 0)]
    seen = {(0, 0): True}
    at = 0
    while at < len(found):
        for pair in _pairs_behind(program, automaton, found[at]):
            if pair not in seen:
                seen[pair] = True
                found.append(pair)
        at += 1
    return found


def _pairs_behind(program, automaton, pair):
    """The list of the pairs to which a pair leads, by its labels in order."""
    row, state = pair
    kind, nexts = kind_and_nexts(program.rows[row])
    if kind != "choose":
        return [(behind, state) for behind in nexts]
    return [(behind, automaton[state].get((row, label), state)) for label, behind in enumerate(nexts)]


def _check_automaton(program, automaton):
    if not is_sequence(automaton, 1, MOST_STATES):
        raise NoAutomaton(-1)
    for index, item in enumerate(automaton):
        if not _is_state(program, item, len(automaton)):
            raise NoAutomaton(index)


def _is_state(program, item, many):
    """Whether a value is a dict from rows and labels of a program to states, of which there are `many`."""
    if not isinstance(item, dict):
        return False
    return all([_is_choice(program, key) and is_within(state, 0, many - 1) for key, state in item.items()])


def _is_choice(program, key):
    if not isinstance(key, tuple) or len(key) != 2 or not is_within(key[0], 0, len(program.rows) - 1):
        return False
    item = program.rows[key[0]]
    return item[0] == "choose" and is_within(key[1], 0, len(item[1]) - 1)
