"""A search from row to row that keeps only what does not follow from what it has found."""

from leastkeep.stairs import Stairs


class Node:
    """What was found at a row: a vector, the node that it came from, if any, and the number of the step between."""

    def __init__(self, row, vector, source, number):
        self.row = row
        self.vector = vector
        self.source = source
        self.number = number

    def numbers_back(self):
        """The numbers of all steps to this node, the last one first."""
        found = []
        node = self
        while node.source is not None:
            found.append(node.number)
            node = node.source
        return tuple(found)

    def numbers_ahead(self):
        """The numbers of all steps to this node, the first one first."""
        return self.numbers_back()[::-1]


def nodes_found(width, starts, moves):
    """The list of nodes whose vectors have, at each row, the module of all vectors that come there.

    starts are nodes without a source; moves(row, vector) tells the tuples
    (number, row, vector) to which a step leads, in which sums of multiples
    stay such sums. Nodes with fewer steps stand first, so that what holds for
    the nodes of at most some steps holds for all vectors of at most as many:
    a linear function that is not 0 behind some steps is not 0 at a node of
    no more steps.
    """
    kept = []
    stairs = {}
    for node in starts:
        _keep(width, kept, stairs, node)
    at = 0
    while at < len(kept):
        node = kept[at]
        for number, row, vector in moves(node.row, node.vector):
            _keep(width, kept, stairs, Node(row, vector, node, number))
        at += 1
    return kept


def by_row(many, nodes):
    """For each of `many` rows the list of its nodes, in their order."""
    found = [[] for _ in range(many)]
    for node in nodes:
        found[node.row].append(node)
    return found


def _keep(width, kept, stairs, node):
    if node.row not in stairs:
        stairs[node.row] = Stairs(width, len(node.vector))
    if stairs[node.row].take(node.vector):
        kept.append(node)
