"""Slow answers that look at all states, all ways on and all sums, one by one.

They execute rows by themselves, so that they share nothing with the package
but the attributes of programs and codes.
"""

from itertools import product


def value_of(form, values, width):
    return (form[0] + sum(c * v for c, v in zip(form[1:], values))) % 2 ** width


def step(program, row, state):
    """All (number, next row, next state), and what is said."""
    item = program.rows[row]
    modulus = 2 ** program.width
    names = list(program.variables)
    if item[0] == "stop":
        return [], []
    if item[0] == "choose":
        return [(label, to, state) for label, to in enumerate(item[1])], []
    if item[0] == "say":
        return [(0, item[2], state)], [value_of(item[1], state, program.width)]
    if item[0] == "look":
        return [(0, item[1], state)], list(state)
    at = names.index(item[1])
    if item[0] == "set":
        worth = value_of(item[2], state, program.width)
        return [(0, item[3], state[:at] + (worth,) + state[at + 1:])], []
    return [(number, item[2], state[:at] + (number,) + state[at + 1:]) for number in range(modulus)], []


def code_step(code, row, registers):
    """A dict of the next registers for each number, and what is said."""
    kind, nexts, says, changes = code.rows[row]
    said = [value_of(form, registers, code.width) for form in says]
    if kind == "ask":
        return {number: tuple(value_of(form, registers + (number,), code.width) for form in changes[0])
                for number in range(2 ** code.width)}, said
    return {label: tuple(value_of(form, registers, code.width) for form in changes[label])
            for label in range(len(nexts))}, said


def lengths(program):
    """For each row a dict: each state with which runs reach it, and the least length of such a run."""
    start = (0, (0,) * len(program.variables))
    found = [{} for _ in program.rows]
    found[0][start[1]] = 0
    layer = [start]
    length = 0
    while layer:
        length += 1
        ahead = []
        for row, state in layer:
            for _, to, other in step(program, row, state)[0]:
                if other not in found[to]:
                    found[to][other] = length
                    ahead.append((to, other))
        layer = ahead
    return found


def module_of(width, size, rows):
    """The set of all sums of multiples of some rows."""
    modulus = 2 ** width
    found = {(0,) * size}
    layer = list(found)
    while layer:
        ahead = []
        for item in layer:
            for row in rows:
                other = tuple((a + b) % modulus for a, b in zip(item, row))
                if other not in found:
                    found.add(other)
                    ahead.append(other)
        layer = ahead
    return found


def hull_of(width, states):
    """The set of all states of the hull of some states, which are at least one."""
    states = list(states)
    modulus = 2 ** width
    first = states[0]
    differences = [tuple(a - b for a, b in zip(state, first)) for state in states]
    return {tuple((a + b) % modulus for a, b in zip(first, item))
            for item in module_of(width, len(first), differences)}


def least_generators(width, size, module):
    """How many rows it takes: the elements of a module, over those of its doubles, are 2 to this power."""
    doubles = {tuple(2 * a % 2 ** width for a in item) for item in module}
    return (len(module) // len(doubles)).bit_length() - 1


def all_forms(width, size):
    return list(product(range(2 ** width), repeat=size + 1))


def linear_parts(program, row):
    """The set of the linear parts of all numbers on all ways on from a row: all matrices are gone through."""
    modulus = 2 ** program.width
    size = len(program.variables)
    units = tuple(tuple(int(a == b) for b in range(size)) for a in range(size))
    seen = {(row, units)}
    layer = [(row, units)]
    found = set()

    def pushed(form, matrix):
        return tuple(sum(form[k + 1] * matrix[k][j] for k in range(size)) % modulus for j in range(size))

    while layer:
        ahead = []
        for spot, matrix in layer:
            item = program.rows[spot]
            nexts = [item[-1]]
            if item[0] == "stop":
                nexts = []
            elif item[0] == "choose":
                nexts = item[1]
            elif item[0] == "say":
                found.add(pushed(item[1], matrix))
            elif item[0] == "look":
                found.update(matrix)
            else:
                at = list(program.variables).index(item[1])
                new = pushed(item[2], matrix) if item[0] == "set" else (0,) * size
                matrix = matrix[:at] + (new,) + matrix[at + 1:]
            for to in nexts:
                if (to, matrix) not in seen:
                    seen.add((to, matrix))
                    ahead.append((to, matrix))
        layer = ahead
    return found


def least_way_apart(program, row, one, other):
    """The least length of a way on that tells two states apart, or None: all pairs are gone through."""
    start = (row, tuple(one), tuple(other))
    seen = {start}
    layer = [start]
    length = 0
    while layer:
        length += 1
        ahead = []
        for spot, left, right in layer:
            exits, said = step(program, spot, left)
            others, told = step(program, spot, right)
            if said != told:
                return length
            for (_, to, new), (_, _, new_right) in zip(exits, others):
                if (to, new, new_right) not in seen:
                    seen.add((to, new, new_right))
                    ahead.append((to, new, new_right))
        layer = ahead
    return None


def least_run_apart(program, code):
    """The least length of a run on which a code says another number, or None: all pairs are gone through."""
    start = (0, (0,) * len(program.variables), code.start)
    seen = {start}
    layer = [start]
    length = 0
    while layer:
        length += 1
        ahead = []
        for row, state, registers in layer:
            exits, said = step(program, row, state)
            changes, told = code_step(code, row, registers)
            if said != told:
                return length
            for number, to, new in exits:
                if (to, new, changes[number]) not in seen:
                    seen.add((to, new, changes[number]))
                    ahead.append((to, new, changes[number]))
        layer = ahead
    return None


def image_of(width, module, parts):
    """The set of the products of all elements of a module with some parts."""
    return {tuple(sum(a * b for a, b in zip(part, item)) % 2 ** width for part in parts) for item in module}


def least_for(program, row, states):
    """The least number of registers for some states of a row: all differences and all ways on are gone through."""
    if not states:
        return 0
    width, size = program.width, len(program.variables)
    first = next(iter(states))
    differences = module_of(width, size, [tuple(a - b for a, b in zip(state, first)) for state in states])
    parts = sorted(linear_parts(program, row))
    return least_generators(width, len(parts), image_of(width, differences, parts))


def joint_states(program, code):
    """For each row a dict of all (state, registers) with which runs reach it, and such a run."""
    start = ((0,) * len(program.variables), code.start)
    found = [{} for _ in program.rows]
    found[0][start] = ()
    layer = [(0,) + start]
    while layer:
        ahead = []
        for row, state, registers in layer:
            changes = code_step(code, row, registers)[0]
            for number, to, new in step(program, row, state)[0]:
                pair = (new, changes[number])
                if pair not in found[to]:
                    found[to][pair] = found[row][state, registers] + (number,)
                    ahead.append((to,) + pair)
        layer = ahead
    return found


def shape(item):
    """What tells which numbers fit a row: -1 for an ask, otherwise the number of labels, or 1."""
    if item[0] == "choose":
        return len(item[1])
    return {"ask": -1, "stop": 0}.get(item[0], 1)


def behaviours(programs):
    """For (index of a program, row, state) a number, equal if the same can be told on all ways on."""
    cells = {}
    for index, program in enumerate(programs):
        for row, item in enumerate(program.rows):
            for state in product(range(2 ** program.width), repeat=len(program.variables)):
                exits, said = step(program, row, state)
                cells[index, row, state] = ((shape(item), tuple(said)), [(index, to, new) for _, to, new in exits])
    names = numbered({cell: told for cell, (told, _) in cells.items()})
    many = 0
    while len(set(names.values())) > many:
        many = len(set(names.values()))
        names = numbered({cell: (names[cell],) + tuple(names[to] for to in exits)
                          for cell, (_, exits) in cells.items()})
    return names


def numbered(told):
    numbers = {}
    return {cell: numbers.setdefault(value, len(numbers)) for cell, value in told.items()}


def code_shape(item):
    return -1 if item[0] == "ask" else len(item[1])


def least_stray(program, code):
    """The least length of a tuple on which a code does not follow a program, or None: all pairs are gone through."""
    start = (0, (0,) * len(program.variables), 0, code.start)
    seen = {start}
    layer = [start]
    length = 0
    while layer:
        length += 1
        ahead = []
        for row, state, spot, registers in layer:
            if shape(program.rows[row]) != code_shape(code.rows[spot]):
                return length
            if program.rows[row][0] == "stop":
                continue
            exits, said = step(program, row, state)
            changes, told = code_step(code, spot, registers)
            if said != told:
                return length
            for number, to, new in exits:
                label = number if code.rows[spot][0] == "choose" else 0
                cell = (to, new, code.rows[spot][1][label], changes[number])
                if cell not in seen:
                    seen.add(cell)
                    ahead.append(cell)
        layer = ahead
    return None


def split_states(program, automaton):
    """A dict of all pairs (row, state of the automaton) that are reached: the set of all states of the program there."""
    start = (0, 0, (0,) * len(program.variables))
    seen = {start}
    waiting = [start]
    while waiting:
        row, known, state = waiting.pop()
        for number, to, new in step(program, row, state)[0]:
            after = automaton[known].get((row, number), known) if program.rows[row][0] == "choose" else known
            if (to, after, new) not in seen:
                seen.add((to, after, new))
                waiting.append((to, after, new))
    found = {}
    for row, known, state in seen:
        found.setdefault((row, known), set()).add(state)
    return found
