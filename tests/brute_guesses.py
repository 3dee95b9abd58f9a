"""Slow answers about guesses: all states of cut hulls, all linear parts, and all states and registers together."""

from itertools import product

from tests import brute


class Looks:
    """The rows of a program, and its looks, with the rows or looks to which they lead."""

    def __init__(self, program, guesses):
        self.program = program
        self.guesses = [(row, form) for row, form in guesses]
        self.many = len(program.rows)
        self.nodes = range(self.many + len(guesses))

    def into(self, row):
        """Where a step comes that leads to a row."""
        return self.behind(row, -1)

    def behind(self, row, index):
        """The next look of a row behind a look, or the row."""
        later = [k for k, (other, _) in enumerate(self.guesses) if other == row and k > index]
        return self.many + later[0] if later else row

    def exits(self, node):
        """The list of all nodes to which a node leads, by labels."""
        if node >= self.many:
            return [self.behind(self.guesses[node - self.many][0], node - self.many)]
        item = self.program.rows[node]
        if item[0] == "stop":
            return []
        return [self.into(row) for row in (item[1] if item[0] == "choose" else item[-1:])]

    def value(self, node, state):
        """What a look says."""
        return brute.value_of(self.guesses[node - self.many][1], state, self.program.width)

    def steps(self, node, state):
        """All (number, node, state) behind a node in step."""
        if node >= self.many:
            return [] if self.value(node, state) else [(0, self.exits(node)[0], state)]
        return [(number, self.into(row), new) for number, row, new in brute.step(self.program, node, state)[0]]


def cut_hulls(program, guesses):
    """For each row and look the set of the states of its cut hull."""
    looks = Looks(program, guesses)
    found = [set() for _ in looks.nodes]
    found[0] = {(0,) * len(program.variables)}
    return closed(program.width, found, lambda node, state: [(to, new) for _, to, new in looks.steps(node, state)])


def closed(width, found, moves):
    """The least hulls in which what stands there is, and all to which moves lead from them."""
    changed = True
    while changed:
        changed = False
        for node, states in enumerate(found):
            for state in list(states):
                for to, new in moves(node, state):
                    if new not in found[to]:
                        found[to] = brute.hull_of(width, found[to] | {new})
                        changed = True
    return found


def refused(program, guesses):
    """The index of the first guess whose look has a hull, but no state in which it says 0, or None."""
    looks = Looks(program, guesses)
    hulls = cut_hulls(program, guesses)
    for index in range(len(guesses)):
        node = looks.many + index
        if hulls[node] and all(looks.value(node, state) for state in hulls[node]):
            return index
    return None


def pulled(program, row, part):
    """A linear part ahead of a row of the program."""
    item = program.rows[row]
    if item[0] not in ("set", "ask"):
        return part
    at = list(program.variables).index(item[1])
    form = item[2][1:] if item[0] == "set" else (0,) * len(part)
    rest = part[:at] + (0,) + part[at + 1:]
    return tuple((a + part[at] * b) % 2 ** program.width for a, b in zip(rest, form))


def parts_in_step(program, guesses):
    """For each row and look the set of all linear parts that are wanted in step."""
    looks = Looks(program, guesses)
    size = len(program.variables)
    units = [tuple(int(a == b) for b in range(size)) for a in range(size)]
    found = []
    for node in looks.nodes:
        if node >= looks.many:
            row, form = guesses[node - looks.many]
            found.append(brute.linear_parts(program, row) | {tuple(number % 2 ** program.width for number in form[1:])})
        else:
            item = program.rows[node]
            found.append({item[1][1:]} if item[0] == "say" else set(units) if item[0] == "look" else set())
    changed = True
    while changed:
        changed = False
        for node in looks.nodes:
            for to in looks.exits(node):
                for part in list(found[to]):
                    other = part if node >= looks.many else pulled(program, node, part)
                    if other not in found[node]:
                        found[node].add(other)
                        changed = True
    return found


def numbers_in_step(program, guesses):
    """For each row and look the least number of registers: all differences and all linear parts are gone through."""
    size = len(program.variables)
    found = []
    for states, parts in zip(cut_hulls(program, guesses), parts_in_step(program, guesses)):
        if not states:
            found.append(0)
            continue
        first = next(iter(states))
        differences = {tuple((a - b) % 2 ** program.width for a, b in zip(state, first)) for state in states}
        images = brute.image_of(program.width, differences, sorted(parts))
        found.append(brute.least_generators(program.width, len(parts), images))
    return found


def first_doubt(program, guesses, code):
    """The first row or look that is not shown, or None: all states and registers together are gone through."""
    looks = Looks(program, guesses)
    size = len(program.variables)
    width = program.width
    found = [set() for _ in looks.nodes]
    found[0] = {(0,) * size + code.quick.start}

    def moves(node, both):
        changes = brute.code_step(code.quick, node, both[size:])[0]
        return [(to, new + changes[number]) for number, to, new in looks.steps(node, both[:size])]

    bad = apart_everywhere(program, code.plain)
    for node, joint in enumerate(closed(width, found, moves)):
        for both in joint:
            state, registers = both[:size], both[size:]
            told = brute.code_step(code.quick, node, registers)[1]
            if node < looks.many:
                if told != brute.step(program, node, state)[1]:
                    return node
                continue
            taken = tuple(brute.value_of(form, registers, width) for form in code.backs[node - looks.many])
            if told != [looks.value(node, state)] or (looks.guesses[node - looks.many][0], state, taken) in bad:
                return node
    return None


def apart_everywhere(program, code):
    """The set of all (row, state, registers) from which a program and a code do not say the same on all ways on."""
    numbers = range(2 ** program.width)
    cells = [(row, state, registers) for row in range(len(program.rows))
             for state in product(numbers, repeat=len(program.variables))
             for registers in product(numbers, repeat=code.counts[row])]
    ahead = {cell: [] for cell in cells}
    waiting = []
    for cell in cells:
        row, state, registers = cell
        exits, said = brute.step(program, row, state)
        changes, told = brute.code_step(code, row, registers)
        if said != told:
            waiting.append(cell)
        for number, to, new in exits:
            ahead[to, new, changes[number]].append(cell)
    found = set(waiting)
    while waiting:
        for cell in ahead[waiting.pop()]:
            if cell not in found:
                found.add(cell)
                waiting.append(cell)
    return found


def in_step(program, guesses, numbers):
    """Behind each number of a run: the index of the first look that said another number than 0 by then, or None."""
    looks = Looks(program, guesses)
    row, state, failed = 0, (0,) * len(program.variables), None
    found = []
    for number in numbers:
        exits = {label: (to, new) for label, to, new in brute.step(program, row, state)[0]}
        row, state = exits[number % 2 ** program.width if program.rows[row][0] == "ask" else number]
        node = looks.into(row)
        while node >= looks.many and failed is None:
            failed = node - looks.many if looks.value(node, state) else None
            node = looks.exits(node)[0]
        found.append(failed)
    return found
