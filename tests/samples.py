"""Programs, codes and odd values that several tests use."""

import random

from leastkeep.codes import Code
from leastkeep.errors import NoRow
from leastkeep.programs import Program, forms_said, graph_of


def double(width=8):
    return Program(width, ["x", "y"], [
        ("ask", "x", 1), ("set", "y", (3, 1, 0), 2), ("choose", (3, 4)), ("say", (0, 1, 1), 2), ("stop",)])


def once():
    return Program(8, ["x"], [("ask", "x", 1), ("say", (0, 2), 2), ("stop",)])


def twice():
    return Code(8, [0, 1, 0], [("ask", (1,), (), (((0, 2),),)), ("go", (2,), ((0, 1),), ((),)),
                               ("stop", (), (), ())], ())


def double_code(constant=3, factor=2):
    """A code over `double` with one register, x: right if it says 2 r + 3."""
    keep = ((0, 1),)
    return Code(8, [0, 1, 1, 1, 0], [
        ("ask", (1,), (), (((0, 1),),)), ("go", (2,), (), (keep,)), ("choose", (3, 4), (), (keep, ())),
        ("go", (2,), ((constant, factor),), (keep,)), ("stop", (), (), ())], ())


def shifts():
    """Six variables of 64 bits: f is not 0 before the loop was done six times."""
    names = ["a", "b", "c", "d", "e", "f"]
    rows = [("set", names[5 - at], tuple(1 if place == 5 - at else 0 for place in range(7)), at + 1)
            for at in range(5)]
    return Program(64, names, rows + [("set", "a", (1, 0, 0, 0, 0, 0, 0), 6), ("choose", (0, 7)),
                                      ("say", (0, 0, 0, 0, 0, 0, 1), 8), ("stop",)])


def odd_values():
    """Objects of many kinds, none of which is an integer, a list, a tuple or a string."""
    def made():
        yield 1
    return [None, True, False, b"x", bytearray(b"x"), memoryview(b"x"), 1j, {}, {0: 0}, set(), {0}, frozenset(),
            range(3), object(), int, tuple, len, made, made(), iter([]), zip(), slice(0, 1), Ellipsis,
            NotImplemented, Exception("x"), NoRow(0), double(), twice()]


def no_sequences():
    return odd_values() + [0, "", "x"]


def no_integers():
    return odd_values() + ["", "0", [], (), [0], (0,)]


def random_program(seed, width=None, size=None, many=None):
    """A program that a number tells: small if nothing else is said."""
    rng = random.Random(seed)
    width = width or rng.randint(1, 3)
    size = size or (rng.randint(1, 2) if width == 3 else rng.randint(1, 3))
    many = many or rng.randint(2, 9)
    names = ["x", "y", "z", "u", "v", "w"][:size]

    def form():
        return tuple(rng.choice([0, 1, 2, -1, rng.getrandbits(width)]) for _ in range(size + 1))

    def item(row):
        def some_row():
            return rng.choice([(row + 1) % many] * 5 + [rng.randrange(many)])
        kind = rng.choice(["set"] * 4 + ["ask", "ask", "say", "say", "look", "choose", "choose"] + ["stop"] * (row == many - 1))
        return {"set": lambda: ("set", rng.choice(names), form(), some_row()),
                "ask": lambda: ("ask", rng.choice(names), some_row()),
                "say": lambda: ("say", form(), some_row()),
                "look": lambda: ("look", some_row()),
                "choose": lambda: ("choose", tuple([some_row() for _ in range(rng.randint(0, 3))] + [(row + 1) % many])),
                "stop": lambda: ("stop",)}[kind]()
    return Program(width, names, [item(row) for row in range(many)])


def plain_code(program, more=0, seed=0):
    """A right code: the variables are registers, and more registers follow that nobody reads."""
    rng = random.Random(seed)
    size = len(program.variables)
    rows = []
    for row, (kind, nexts) in enumerate(graph_of(program)):
        item = program.rows[row]
        asked = 1 if kind == "ask" else 0
        forms = []
        for place, name in enumerate(program.variables):
            form = [0] * (size + more + 1 + asked)
            if item[0] == "set" and item[1] == name:
                form[:size + 1] = item[2]
            elif item[0] == "ask" and item[1] == name:
                form[-1] = 1
            else:
                form[place + 1] = 1
            forms.append(tuple(form))
        for _ in range(more):
            forms.append(tuple(rng.getrandbits(program.width) for _ in range(size + more + 1 + asked)))
        says = tuple(form + (0,) * more for form in forms_said(program, row))
        rows.append((kind, nexts, says, (tuple(forms),) * len(nexts)))
    return Code(program.width, [size + more] * len(rows), rows, (0,) * (size + more))


def changed_code(code, seed):
    """The code with one number of a form, or of the start, changed."""
    rng = random.Random(seed)
    places = [("start", at) for at in range(len(code.start))]
    for row, (_, _, says, changes) in enumerate(code.rows):
        places += [("says", row, at, place) for at, form in enumerate(says) for place in range(len(form))]
        places += [("changes", row, to, at, place) for to, forms in enumerate(changes)
                   for at, form in enumerate(forms) for place in range(len(form))]
    if not places:
        return code
    spot = rng.choice(places)
    more = 1 + rng.randrange((1 << code.width) - 1)
    start = list(code.start)
    rows = [[kind, nexts, [list(form) for form in says], [[list(form) for form in forms] for forms in changes]]
            for kind, nexts, says, changes in code.rows]
    if spot[0] == "start":
        start[spot[1]] += more
    elif spot[0] == "says":
        rows[spot[1]][2][spot[2]][spot[3]] += more
    else:
        rows[spot[1]][3][spot[2]][spot[3]][spot[4]] += more
    return Code(code.width, code.counts, [
        (kind, nexts, tuple(tuple(form) for form in says), tuple(tuple(tuple(form) for form in forms)
                                                                 for forms in changes))
        for kind, nexts, says, changes in rows], tuple(start))
