"""Slow answers about calls: a slow machine, all results and all states, and all stacks up to some height.

They share nothing with the package but the attributes of programs with calls.
"""

import random

from leastkeep.calls import Calls


def value_of(form, values, width):
    return (form[0] + sum(c * v for c, v in zip(form[1:], values))) % 2 ** width


def number_of(program, name):
    return [item[0] for item in program.functions].index(name)


def names_of(program, function):
    return program.functions[function][1] + program.functions[function][2]


def machine(program, function, values, numbers):
    """What run_function tells for a run: each call is a dict, the open ones are in a list."""
    width = program.width

    def begun(number, worths):
        names = names_of(program, number)
        worths = [worth % 2 ** width for worth in worths]
        return {"function": number, "row": 0, "values": dict(zip(names, worths + [0] * (len(names) - len(worths))))}

    stack, result, said = [begun(function, values)], None, []
    for number in numbers:
        call = stack[-1]
        item = program.functions[call["function"]][3][call["row"]]
        now = tuple(call["values"].values())
        if item[0] == "set":
            call["values"][item[1]] = value_of(item[2], now, width)
        elif item[0] == "ask":
            call["values"][item[1]] = number % 2 ** width
        elif item[0] == "say":
            said.append(value_of(item[1], now, width))
        elif item[0] == "look":
            said.extend(now)
        elif item[0] == "call":
            stack.append(begun(number_of(program, item[2]), [value_of(form, now, width) for form in item[3]]))
            continue
        elif item[0] == "return":
            worth = value_of(item[1], now, width)
            stack.pop()
            if not stack:
                result = worth
                continue
            call = stack[-1]
            item = program.functions[call["function"]][3][call["row"]]
            call["values"][item[1]] = worth
        call["row"] = item[1][number] if item[0] == "choose" else item[-1]
    return [(call["function"], call["row"], tuple(call["values"].values())) for call in stack], result, said


def exits(item):
    """The list of all (label, next row) of a row, where what is asked for is left out."""
    if item[0] == "return":
        return []
    return list(enumerate(item[1])) if item[0] == "choose" else [(0, item[-1])]


def some_run(program, function, seed, most=60):
    """A run that a number tells, which is seldom longer than `most`: then it returns where it can."""
    rng = random.Random(seed)
    numbers, stack = [], [(function, 0)]
    while stack and len(numbers) < most:
        at, row = stack[-1]
        item = program.functions[at][3][row]
        label, to = (0, None) if item[0] == "return" else rng.choice(exits(item))
        numbers.append(rng.getrandbits(program.width + 1) - 1 if item[0] == "ask" else label)
        if item[0] == "return":
            stack.pop()
            if stack:
                caller, spot = stack[-1]
                stack[-1] = (caller, program.functions[caller][3][spot][-1])
        elif item[0] == "call":
            stack.append((number_of(program, item[2]), 0))
        else:
            stack[-1] = (at, to)
    return numbers, not stack


def combined(form, rows, width):
    """A form of forms over the same numbers."""
    size = len(rows[0]) if rows else 1
    found = [form[0] % 2 ** width] + [0] * (size - 1)
    for factor, row in zip(form[1:], rows):
        found = [(a + factor * b) % 2 ** width for a, b in zip(found, row)]
    return tuple(found)


def all_results(program):
    """For each function the set of all results, as forms over its parameters."""
    width = program.width
    results = [set() for _ in program.functions]
    places = {}
    for function, (_, parameters, _, _) in enumerate(program.functions):
        size = len(parameters) + 1
        units = [tuple(int(k == at + 1) for k in range(size)) for at in range(size - 1)]
        zeros = [(0,) * size] * (len(names_of(program, function)) - len(parameters))
        places[function, 0] = {tuple(units + zeros)}
    changed = True
    while changed:
        changed = False
        for function, (_, parameters, _, rows) in enumerate(program.functions):
            names = names_of(program, function)
            for row, item in enumerate(rows):
                for table in list(places.get((function, row), ())):
                    size = len(parameters) + 1
                    if item[0] == "return":
                        changed |= added(results[function], combined(item[1], table, width) if table else item[1])
                        continue
                    if item[0] == "set":
                        news = [combined(item[2], table, width)]
                    elif item[0] == "ask":
                        news = [(number,) + (0,) * (size - 1) for number in range(2 ** width)]
                    elif item[0] == "call":
                        handed = [combined(form, table, width) for form in item[3]]
                        news = [combined(form, handed, width) if handed else form + (0,) * (size - 1)
                                for form in results[number_of(program, item[2])]]
                    else:
                        news = [None]
                    for new in news:
                        at = None if new is None else names.index(item[1])
                        other = table if new is None else table[:at] + (new,) + table[at + 1:]
                        for _, to in exits(item):
                            changed |= added(places.setdefault((function, to), set()), other)
    return results


def added(found, item):
    """Add an item to a set; tell whether it was new."""
    if item in found:
        return False
    found.add(item)
    return True


def all_states(program):
    """A dict by (function, row): the set of all states with which runs of the program reach it."""
    width = program.width
    results = all_results(program)
    start = (0, 0, (0,) * len(names_of(program, 0)))
    seen, waiting = {start}, [start]
    while waiting:
        function, row, state = waiting.pop()
        item = program.functions[function][3][row]
        names = names_of(program, function)
        worths = [None]
        if item[0] == "set":
            worths = [value_of(item[2], state, width)]
        elif item[0] == "ask":
            worths = list(range(2 ** width))
        elif item[0] == "call":
            called = number_of(program, item[2])
            handed = tuple(value_of(form, state, width) for form in item[3])
            new = (called, 0, handed + (0,) * (len(names_of(program, called)) - len(handed)))
            if added(seen, new):
                waiting.append(new)
            worths = [value_of(form, handed, width) for form in results[called]]
        for worth in worths:
            at = None if worth is None else names.index(item[1])
            other = state if worth is None else state[:at] + (worth,) + state[at + 1:]
            for _, to in exits(item):
                if added(seen, (function, to, other)):
                    waiting.append((function, to, other))
    found = {}
    for function, row, state in seen:
        found.setdefault((function, row), set()).add(state)
    return found


def stacks(program, most):
    """All stacks of at most `most` open calls, as tuples of (function, row), and whether there are higher ones."""
    seen, waiting, higher = {((0, 0),)}, [((0, 0),)], False
    while waiting:
        stack = waiting.pop()
        function, row = stack[-1]
        item = program.functions[function][3][row]
        nexts = []
        if item[0] == "call":
            higher |= len(stack) == most
            nexts = [stack + ((number_of(program, item[2]), 0),)] if len(stack) < most else []
        elif item[0] == "return":
            if len(stack) > 1:
                caller, spot = stack[-2]
                nexts = [stack[:-2] + ((caller, program.functions[caller][3][spot][-1]),)]
        else:
            nexts = [stack[:-1] + ((function, to),) for _, to in exits(item)]
        for other in nexts:
            if added(seen, other):
                waiting.append(other)
    return seen, higher


def parts_behind(program, function, row, most, cells=20000):
    """The set of the linear parts of all that is said behind a row, on stacks of at most some height.

    Each variable of each open call has a linear part over the variables at
    the row; those of the callers do not hang on them before a return. The
    second answer tells whether that was all.
    """
    width = program.width
    found, whole = set(), True
    reachable, higher = stacks(program, most)
    calls = [stack for stack in reachable if program.functions[stack[-1][0]][3][stack[-1][1]][0] == "call"
             and number_of(program, program.functions[stack[-1][0]][3][stack[-1][1]][2]) == function]
    size = len(names_of(program, function))
    units = tuple(tuple(int(a == b) for b in range(size)) for a in range(size))

    def frame(at, spot):
        return (at, spot, ((0,) * size,) * len(names_of(program, at)))

    starts = [tuple(frame(at, spot) for at, spot in stack) + ((function, row, units),) for stack in [()] + calls]
    seen, waiting = set(starts), list(starts)
    whole = not higher
    while waiting:
        if len(seen) > cells:
            return found, False
        stack = waiting.pop()
        at, spot, table = stack[-1]
        item = program.functions[at][3][spot]
        names = names_of(program, at)
        nexts = []
        if item[0] == "say":
            found.add(pushed(item[1], table, width, size))
        elif item[0] == "look":
            found.update(table)
        if item[0] == "call":
            called = number_of(program, item[2])
            handed = tuple(pushed(form, table, width, size) for form in item[3])
            rest = ((0,) * size,) * (len(names_of(program, called)) - len(handed))
            if len(stack) < most + 1:
                nexts = [stack + ((called, 0, handed + rest),)]
            else:
                whole = False
        elif item[0] == "return":
            if len(stack) > 1:
                caller, ahead, values = stack[-2]
                call = program.functions[caller][3][ahead]
                place = names_of(program, caller).index(call[1])
                new = values[:place] + (pushed(item[1], table, width, size),) + values[place + 1:]
                nexts = [stack[:-2] + ((caller, call[-1], new),)]
        else:
            if item[0] in ("set", "ask"):
                place = names.index(item[1])
                new = pushed(item[2], table, width, size) if item[0] == "set" else (0,) * size
                table = table[:place] + (new,) + table[place + 1:]
            nexts = [stack[:-1] + ((at, to, table),) for _, to in exits(item)]
        for other in nexts:
            if added(seen, other):
                waiting.append(other)
    return found, whole


def pushed(form, table, width, size):
    return tuple(sum(form[k + 1] * table[k][j] for k in range(len(table))) % 2 ** width for j in range(size))


def random_calls(seed, width=None, most=None):
    """A program with calls that a number tells: its functions return as a rule."""
    rng = random.Random(seed)
    width = width or rng.choice([1, 1, 2])
    many = most or rng.randint(1, 3)
    heads = []
    for function in range(many):
        parameters = rng.randint(0, 2) if function else 0
        others = rng.randint(0 if parameters else 1, 2 if parameters < 2 else 1)
        heads.append(("fghk"[function], tuple("nm"[:parameters]), tuple("xyz"[:others])))

    def rows_of(function):
        names = heads[function][1] + heads[function][2]
        size = rng.randint(2, 7)

        def form():
            return tuple(rng.choice([0, 1, 1, 2, -1, rng.getrandbits(width)]) for _ in range(len(names) + 1))

        def to(row):
            return rng.choice([min(row + 1, size - 1)] * 5 + [rng.randrange(size)])

        def item(row):
            kind = rng.choice(["set", "set", "ask", "say", "look", "choose", "choose", "call", "call", "return"])
            if row == size - 1 and rng.random() < 0.9:
                kind = "return"
            if kind == "call":
                name, parameters, _ = rng.choice(heads)
                return ("call", rng.choice(names), name, tuple(form() for _ in parameters), to(row))
            return {"set": ("set", rng.choice(names), form(), to(row)), "ask": ("ask", rng.choice(names), to(row)),
                    "say": ("say", form(), to(row)), "look": ("look", to(row)), "return": ("return", form()),
                    "choose": ("choose", tuple(to(row) for _ in range(rng.randint(1, 3))))}[kind]
        return tuple(item(row) for row in range(size))
    return Calls(width, [head + (rows_of(function),) for function, head in enumerate(heads)])
