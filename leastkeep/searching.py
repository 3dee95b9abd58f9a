"""A search from row to row that keeps only what does not follow from what it has found."""

from leastkeep.stairs import Stairs


class Node:
    """What was found at a row: a vector, the node that it came from, if any, and the number of the step between."""

    def __init__(self, row, vector, source, number):
        self.row = row
        self.vector = vector
        self.source = source
        self.number = number

    def numbers_back(self):
        """The numbers of all steps to this node, the last one first."""
        found = []
        node = self
        while node.source is not None:
            found.append(node.number)
            node = node.source
        return tuple(found)

    def numbers_ahead(self):
        """The numbers of all steps to this node, the first one first."""
        return self.numbers_back()[::-1]


class Search:
    """Finds nodes whose vectors have, at each row, the module of all vectors that come there.

    starts are nodes without a source; moves(row, vector) tells the tuples
    (number, row, vector) to which a step leads, in which sums of multiples
    stay such sums. Nodes with fewer steps are found first, so that what holds
    for the nodes of at most some steps holds for all vectors of at most as
    many: a linear function that is not 0 behind some steps is not 0 at a node
    of no more steps. Of as many steps, those with the least numbers are found
    first, if moves tells numbers in their order.
    """

    def __init__(self, width, starts, moves):
        self.width = width
        self.moves = moves
        self.kept = []
        self.stairs = {}
        self.done = 0
        for node in starts:
            self._keep(node)

    def next_node(self):
        """The next node, from which all steps have been taken then, or None if there is none left."""
        if self.done == len(self.kept):
            return None
        node = self.kept[self.done]
        self.done += 1
        moves = self.moves
        for number, row, vector in moves(node.row, node.vector):
            self._keep(Node(row, vector, node, number))
        return node

    def _keep(self, node):
        if node.row not in self.stairs:
            size = len(node.vector)
            self.stairs[node.row] = Stairs(self.width, size, size)
        if self.stairs[node.row].take(node.vector):
            self.kept.append(node)


def nodes_found(width, starts, moves):
    """The list of all nodes of a search."""
    search = Search(width, starts, moves)
    while search.next_node() is not None:
        pass
    return search.kept


def by_row(many, nodes):
    """For each of `many` rows the list of its nodes, in their order."""
    found = [[] for _ in range(many)]
    for node in nodes:
        found[node.row].append(node)
    return found
