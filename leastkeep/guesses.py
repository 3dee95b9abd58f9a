"""What a code can keep less if it trusts guesses, and looks at each of them where it comes to a row."""

from leastkeep.errors import Refused
from leastkeep.graphs import exits_of
from leastkeep.hulls import hull_of_vectors
from leastkeep.keeping import kept_parts
from leastkeep.looks import Cut, Guessed, check_guesses
from leastkeep.modules import echelon
from leastkeep.programs import graph_of, stepped
from leastkeep.searching import Node, by_row, nodes_found
from leastkeep.wants import all_wanted, nodes_wanting, starts_saying


def guess_hulls(program, guesses):
    """The list of the cut hulls of all rows, then of all looks."""
    check_guesses(program, guesses)
    return hulls_in_step(Guessed(program, guesses))


def guess_wanted(program, guesses):
    """The list of what is wanted in step at all rows, then at all looks."""
    check_guesses(program, guesses)
    guessed = Guessed(program, guesses)
    hulls_in_step(guessed)
    return wants_in_step(guessed, all_wanted(program))


def guess_numbers(program, guesses):
    """The list of the least numbers of registers in step at all rows, then at all looks."""
    check_guesses(program, guesses)
    return numbers_in_step(Guessed(program, guesses), all_wanted(program))


def hulls_in_step(guessed):
    """The list of the cut hulls of a program with looks; raise Refused for the first guess that no state keeps to."""
    graph = graph_of(guessed)
    cuts = [Cut(guessed.width, form) for form in guessed.forms]

    def moves(row, vector):
        going = [vector] if row < guessed.first_look else cuts[row - guessed.first_look].passed(vector)
        return [(number, behind, stepped(guessed, row, ahead, number)) for ahead in going
                for number, behind in exits_of(graph, row, (0, 1))]

    start = Node(0, (1,) + (0,) * len(guessed.variables), None, None)
    found = by_row(len(guessed.rows), nodes_found(guessed.width, [start], moves))
    for index, cut in enumerate(cuts):
        if found[guessed.first_look + index] and cut.head is None:
            raise Refused(index)
    return [hull_of_vectors(guessed.width, [node.vector for node in nodes]) for nodes in found]


def wants_in_step(guessed, wants):
    """The list of what is wanted in step, where `wants` tells what is wanted at each row without guesses."""
    starts = starts_saying(guessed)
    for index, row in enumerate(guessed.spots):
        starts.extend([Node(guessed.first_look + index, part, None, None) for part in wants[row]])
    return [echelon(guessed.width, len(guessed.variables), [node.vector for node in nodes])
            for nodes in nodes_wanting(guessed, starts)]


def numbers_in_step(guessed, wants):
    """The list of the least numbers of registers in step, where `wants` tells what is wanted without guesses."""
    return [len(kept_parts(guessed.width, there, parts))
            for there, parts in zip(hulls_in_step(guessed), wants_in_step(guessed, wants))]
