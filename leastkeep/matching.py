"""Rows of two programs from which the same tuples are ways on, and what is said behind both of them."""

from leastkeep.graphs import exits_of, next_row, shape_of
from leastkeep.modules import picked
from leastkeep.programs import forms_said, graph_of, pulled_back
from leastkeep.searching import Node, nodes_found


def matched_forms(one, other, starts):
    """A dict of the pairs behind some pairs of rows from which the same tuples are ways on and say as many numbers.

    It tells, for each such pair, tuples of a form over the variables of the
    one program and one over those of the other: two states are alike, as to
    all ways on, exactly if in each tuple both forms have the same value.
    """
    exits = _matched(_pairs_behind(one, other, starts))
    size = len(one.variables) + 1
    vectors = {pair: [] for pair in exits}
    for node in _nodes_back(one, other, exits):
        vectors[node.row].append(node.vector)
    found = {}
    for pair in exits:
        chosen = picked(one.width, size + len(other.variables), vectors[pair])
        found[pair] = [_apart(vectors[pair][index], size) for index in chosen]
    return found


def _pairs_behind(one, other, starts):
    """For each pair, all (number, pair) to which it leads; None if not the same numbers fit, or as many are said."""
    found = {}
    waiting = list(starts)
    while waiting:
        pair = waiting.pop()
        if pair not in found:
            found[pair] = _exits_of_pair(one, other, pair)
            waiting.extend([behind for _, behind in found[pair] or []])
    return found


def _exits_of_pair(one, other, pair):
    row, spot = pair
    graph, others = graph_of(one), graph_of(other)
    if shape_of(graph[row]) != shape_of(others[spot]) or len(forms_said(one, row)) != len(forms_said(other, spot)):
        return None
    return [(number, (behind, next_row(others, spot, number))) for number, behind in exits_of(graph, row, (0, 1))]


def _matched(exits):
    """Those pairs that lead to no pair for which there is None, however many steps it takes."""
    kept = {pair: steps for pair, steps in exits.items() if steps is not None}
    many = len(exits)
    while len(kept) < many:
        many = len(kept)
        kept = {pair: steps for pair, steps in kept.items() if all([behind in kept for _, behind in steps])}
    return kept


def _nodes_back(one, other, exits):
    """Nodes at pairs: what is said on ways on, as both forms in one, with what their constants differ by."""
    steps_to = _steps_to_pairs(exits)
    starts = [Node(pair, _together(first, second), None, None) for pair in exits
              for first, second in zip(forms_said(one, pair[0]), forms_said(other, pair[1]))]

    def moves(pair, vector):
        first, second = _apart(vector, len(one.variables) + 1)
        return [(number, ahead, _together(pulled_back(one, ahead[0], first, number),
                                          pulled_back(other, ahead[1], second, number)))
                for number, ahead in steps_to[pair]]

    return nodes_found(one.width, starts, moves)


def _steps_to_pairs(exits):
    """For each pair the list of (number, pair ahead of it)."""
    found = {pair: [] for pair in exits}
    for pair, steps in exits.items():
        for number, behind in steps:
            found[behind].append((number, pair))
    return found


def _together(first, second):
    return (first[0] - second[0],) + first[1:] + second[1:]


def _apart(vector, size):
    return vector[:size], (0,) + vector[size:]
