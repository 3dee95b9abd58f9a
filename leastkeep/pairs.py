"""Two codes that are executed side by side, on the same runs."""

from leastkeep.graphs import exits_of, next_row, number_for_one, shape_of
from leastkeep.machines import Machine, as_code
from leastkeep.observing import observed
from leastkeep.searching import Node, Search, nodes_found

# So many nodes are looked at before a code is first freed of what it never says.
PATIENCE = 6000


class Pairs:
    """Pairs of rows of two codes, and vectors there: 1, the registers of the one, and those of the other."""

    def __init__(self, one, other):
        self.one = Machine(one)
        self.other = Machine(other)
        self.width = one.width
        self.start = Node((0, 0), self.one.start + self.other.start[1:], None, None)

    def moves_from(self, pair, vector):
        """Tuples (number, pair, vector) behind a pair, none if not the same numbers fit both rows."""
        if self.differs(pair):
            return []
        row, spot = pair
        first, second = self.halves(pair, vector)
        found = []
        for number, behind in exits_of(self.one.graph, row, (0, 1)):
            ahead = self.one.step(row, first, number) + self.other.step(spot, second, number)[1:]
            found.append((number, (behind, next_row(self.other.graph, spot, number)), ahead))
        return found

    def halves(self, pair, vector):
        """The vectors of both codes for themselves."""
        size = self.one.code.counts[pair[0]] + 1
        return vector[:size], vector[:1] + vector[size:]

    def differs(self, pair):
        """Whether not the same numbers fit both rows."""
        row, spot = pair
        return shape_of(self.one.graph[row]) != shape_of(self.other.graph[spot])

    def stray_number(self, node):
        """A number that strays at a node, or None: it fits one row alone, or another number is said then."""
        row, spot = node.row
        if self.differs(node.row):
            return number_for_one(self.one.graph[row], self.other.graph[spot])
        first, second = self.halves(node.row, node.vector)
        return None if self.one.said(row, first) == self.other.said(spot, second) else 0


def first_stray(one, other):
    """None if the same numbers are said on the same runs of two codes, otherwise a shortest tuple that shows another.

    Where this takes long, the other code is freed of what it never says:
    then, if the codes are alike, little is left to be looked at.
    """
    node, number = _first_off(Pairs(one, other), PATIENCE)
    if node is not None and number is None:
        node, number = _first_off(Pairs(one, observed(other)), None)
    return None if node is None else node.numbers_ahead() + (number,)


def _first_off(pairs, most):
    """The first node that strays and its number; without one (None, None), or (node, None) behind `most` nodes."""
    search = Search(pairs.width, [pairs.start], pairs.moves_from)
    looked_at = 0
    node = search.next_node()
    while node is not None:
        number = pairs.stray_number(node)
        looked_at += 1
        if number is not None or looked_at == most:
            return (node, number)
        node = search.next_node()
    return (None, None)


def joint_nodes(program, code, row):
    """Nodes at a row of a program and a code over it: their vectors are 1, the values and the registers."""
    pairs = Pairs(as_code(program), code)
    nodes = nodes_found(program.width, [pairs.start], pairs.moves_from)
    return [node for node in nodes if node.row == (row, row)]
