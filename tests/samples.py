"""Programs, codes and odd values that several tests use."""

import random

from leastkeep.calls import Calls
from leastkeep.codes import Code
from leastkeep.desks import Desk
from leastkeep.errors import NoRow
from leastkeep.guessing import GuessCode
from leastkeep.hulls import relations
from leastkeep.programs import Program, forms_said, graph_of


def double(width=8):
    return Program(width, ["x", "y"], [
        ("ask", "x", 1), ("set", "y", (3, 1, 0), 2), ("choose", (3, 4)), ("say", (0, 1, 1), 2), ("stop",)])


def once():
    return Program(8, ["x"], [("ask", "x", 1), ("say", (0, 2), 2), ("stop",)])


def twice():
    return Code(8, [0, 1, 0], [("ask", (1,), (), (((0, 2),),)), ("go", (2,), ((0, 1),), ((),)),
                               ("stop", (), (), ())], ())


def pair():
    """The program of the guesses: x or y is said."""
    return Program(8, ["x", "y"], [("ask", "x", 1), ("ask", "y", 2), ("choose", (3, 4)), ("say", (0, 1, 0), 5),
                                   ("say", (0, 0, 1), 5), ("stop",)])


def turning():
    """The program of the rounds: x becomes 3 x + 1, and x + y is said."""
    return Program(8, ["x", "y"], [("set", "x", (1, 3, 0), 1), ("say", (0, 1, 1), 0)])


def climbing():
    """A program with calls, with the function of the example: its result is n, 2 n + 2, 4 n + 8, and so on."""
    return Calls(8, [
        ("main", (), ("x",), (("ask", "x", 1), ("call", "x", "f", ((0, 1),), 2), ("say", (0, 1), 0))),
        ("f", ("n",), ("r",), (("choose", (1, 2)), ("return", (0, 1, 0)), ("call", "r", "f", ((1, 1, 0),), 3),
                               ("return", (0, 0, 2))))])


def double_code(constant=3, factor=2):
    """A code over `double` with one register, x: right if it says 2 r + 3."""
    keep = ((0, 1),)
    return Code(8, [0, 1, 1, 1, 0], [
        ("ask", (1,), (), (((0, 1),),)), ("go", (2,), (), (keep,)), ("choose", (3, 4), (), (keep, ())),
        ("go", (2,), ((constant, factor),), (keep,)), ("stop", (), (), ())], ())


def shifts():
    """Six variables of 64 bits: f is not 0 before the loop was done six times."""
    names = ["a", "b", "c", "d", "e", "f"]
    rows = [("set", names[5 - at], tuple(1 if place == 5 - at else 0 for place in range(7)), at + 1)
            for at in range(5)]
    return Program(64, names, rows + [("set", "a", (1, 0, 0, 0, 0, 0, 0), 6), ("choose", (0, 7)),
                                      ("say", (0, 0, 0, 0, 0, 0, 1), 8), ("stop",)])


def odd_values():
    """Objects of many kinds, none of which is an integer, a list, a tuple or a string."""
    def made():
        yield 1
    return [None, True, False, b"x", bytearray(b"x"), memoryview(b"x"), 1j, {}, {0: 0}, set(), {0}, frozenset(),
            range(3), object(), int, tuple, len, made, made(), iter([]), zip(), slice(0, 1), Ellipsis,
            NotImplemented, Exception("x"), NoRow(0), double(), twice(), Desk(once()), GuessCode(twice(), twice(), ()),
            climbing()]


def no_sequences():
    return odd_values() + [0, "", "x"]


def no_integers():
    return odd_values() + ["", "0", [], (), [0], (0,)]


def random_program(seed, width=None, size=None, many=None):
    """A program that a number tells: small if nothing else is said."""
    rng = random.Random(seed)
    width = width or rng.randint(1, 3)
    size = size or (rng.randint(1, 2) if width == 3 else rng.randint(1, 3))
    many = many or rng.randint(2, 9)
    names = ["x", "y", "z", "u", "v", "w"][:size]

    def form():
        return tuple(rng.choice([0, 1, 2, -1, rng.getrandbits(width)]) for _ in range(size + 1))

    def item(row):
        def some_row():
            return rng.choice([(row + 1) % many] * 5 + [rng.randrange(many)])
        kind = rng.choice(["set"] * 4 + ["ask", "ask", "say", "say", "look", "choose", "choose"] + ["stop"] * (row == many - 1))
        return {"set": lambda: ("set", rng.choice(names), form(), some_row()),
                "ask": lambda: ("ask", rng.choice(names), some_row()),
                "say": lambda: ("say", form(), some_row()),
                "look": lambda: ("look", some_row()),
                "choose": lambda: ("choose", tuple([some_row() for _ in range(rng.randint(0, 3))] + [(row + 1) % many])),
                "stop": lambda: ("stop",)}[kind]()
    return Program(width, names, [item(row) for row in range(many)])


def plain_code(program, more=0, seed=0):
    """A right code: the variables are registers, and more registers follow that nobody reads."""
    rng = random.Random(seed)
    size = len(program.variables)
    rows = []
    for row, (kind, nexts) in enumerate(graph_of(program)):
        item = program.rows[row]
        asked = 1 if kind == "ask" else 0
        forms = []
        for place, name in enumerate(program.variables):
            form = [0] * (size + more + 1 + asked)
            if item[0] == "set" and item[1] == name:
                form[:size + 1] = item[2]
            elif item[0] == "ask" and item[1] == name:
                form[-1] = 1
            else:
                form[place + 1] = 1
            forms.append(tuple(form))
        for _ in range(more):
            forms.append(tuple(rng.getrandbits(program.width) for _ in range(size + more + 1 + asked)))
        says = tuple(form + (0,) * more for form in forms_said(program, row))
        rows.append((kind, nexts, says, (tuple(forms),) * len(nexts)))
    return Code(program.width, [size + more] * len(rows), rows, (0,) * (size + more))


def changed_code(code, seed):
    """The code with one number of a form, or of the start, changed."""
    rng = random.Random(seed)
    places = [("start", at) for at in range(len(code.start))]
    for row, (_, _, says, changes) in enumerate(code.rows):
        places += [("says", row, at, place) for at, form in enumerate(says) for place in range(len(form))]
        places += [("changes", row, to, at, place) for to, forms in enumerate(changes)
                   for at, form in enumerate(forms) for place in range(len(form))]
    if not places:
        return code
    spot = rng.choice(places)
    more = 1 + rng.randrange((1 << code.width) - 1)
    start = list(code.start)
    rows = [[kind, nexts, [list(form) for form in says], [[list(form) for form in forms] for forms in changes]]
            for kind, nexts, says, changes in code.rows]
    if spot[0] == "start":
        start[spot[1]] += more
    elif spot[0] == "says":
        rows[spot[1]][2][spot[2]][spot[3]] += more
    else:
        rows[spot[1]][3][spot[2]][spot[3]][spot[4]] += more
    return Code(code.width, code.counts, [
        (kind, nexts, tuple(tuple(form) for form in says), tuple(tuple(tuple(form) for form in forms)
                                                                 for forms in changes))
        for kind, nexts, says, changes in rows], tuple(start))


def changed_program(program, seed):
    """The program with one number of a form changed, or the same if it has no forms."""
    rng = random.Random(seed)
    places = [(row, at) for row, item in enumerate(program.rows) if item[0] in ("set", "say")
              for at in range(len(program.variables) + 1)]
    if not places:
        return program
    row, at = rng.choice(places)
    return with_form(program, row, [0] * at + [1 + rng.randrange((1 << program.width) - 1)])


def with_form(program, row, added):
    """The program with some numbers added to the form of a row."""
    rows = list(program.rows)
    item = list(rows[row])
    added = list(added) + [0] * (len(program.variables) + 1 - len(added))
    item[-2] = tuple(a + b for a, b in zip(item[-2], added))
    rows[row] = tuple(item)
    return Program(program.width, program.variables, rows)


def varied(program, seed):
    """The program with a sum of relations added to each form: it says the same on all runs."""
    rng = random.Random(seed)
    found = program
    for row, item in enumerate(program.rows):
        if item[0] in ("set", "say"):
            added = [0] * (len(program.variables) + 1)
            for form in relations(program, row):
                factor = rng.getrandbits(program.width)
                added = [a + factor * b for a, b in zip(added, form)]
            found = with_form(found, row, added)
    return found


def dense_program(width=64, seed=1):
    """A program with 6 variables and 25 rows whose forms are dense, with loops: most of it is kept and said."""
    rng = random.Random(seed)
    names = ["a", "b", "c", "d", "e", "f"]

    def form():
        return tuple(rng.getrandbits(width) for _ in range(7))
    rows = []
    for at in range(6):
        rows += [("ask", names[at], 4 * at + 1), ("set", names[(at + 2) % 6], form(), 4 * at + 2),
                 ("choose", (4 * at + 3, (4 * at + 7) % 25, 0)), ("say", form(), 4 * at + 4)]
    return Program(width, names, rows + [("set", "a", (0, 1, 2, 3, 4, 5, 6), 0)])


def padded_code(code, junk, zeros, seed=1):
    """The same code with more registers: some that nobody reads, and some that are 0 always and are read everywhere."""
    rng = random.Random(seed)

    def some(many):
        return tuple(rng.getrandbits(code.width) for _ in range(many))
    rows = []
    for row, (kind, nexts, says, changes) in enumerate(code.rows):
        size = code.counts[row] + 1
        asked = (0,) if kind == "ask" else ()

        def wider(form):
            return form[:size] + (0,) * junk + some(zeros) + form[size:]
        more = []
        for forms in changes:
            added = [some(size + junk + zeros + len(asked)) for _ in range(junk)]
            added += [(0,) * (size + junk) + some(zeros) + asked for _ in range(zeros)]
            more.append(tuple(map(wider, forms)) + tuple(added))
        rows.append((kind, nexts, tuple(map(wider, says)), tuple(more)))
    return Code(code.width, [count + junk + zeros for count in code.counts], rows,
                code.start + some(junk) + (0,) * zeros)


def random_automaton(program, seed, states=None):
    """An automaton that a number tells."""
    rng = random.Random(seed)
    states = states or rng.randint(1, 4)
    keys = [(row, label) for row, item in enumerate(program.rows) if item[0] == "choose"
            for label in range(len(item[1]))]
    return [{key: rng.randrange(states) for key in keys if rng.random() < 0.7} for _ in range(states)]


def random_code(program, seed, most=2):
    """A code over a program with any forms, which is seldom right."""
    rng = random.Random(seed)
    counts = [rng.randint(0, most) for _ in program.rows]

    def form(size):
        return tuple(rng.choice([0, 0, 1, 2, rng.getrandbits(program.width)]) for _ in range(size + 1))
    rows = []
    for row, (kind, nexts) in enumerate(graph_of(program)):
        asked = 1 if kind == "ask" else 0
        says = tuple(form(counts[row]) for _ in forms_said(program, row))
        changes = tuple(tuple(form(counts[row] + asked) for _ in range(counts[to])) for to in nexts)
        rows.append((kind, nexts, says, changes))
    return Code(program.width, counts, rows, form(counts[0])[1:])


def doubled_code(program, factor=2):
    """A code that keeps each variable times a factor, and says these: right for what is said times the factor."""
    size = len(program.variables)
    rows = []
    for row, (kind, nexts, says, changes) in enumerate(plain_code(program).rows):
        scaled = tuple((form[0] * factor,) + form[1:] for form in says)
        more = tuple(tuple((form[0] * factor,) + form[1:size + 1] + tuple(factor * n for n in form[size + 1:])
                           for form in forms) for forms in changes)
        rows.append((kind, nexts, scaled, more))
    return Code(program.width, [size] * len(rows), rows, (0,) * size)


def changed_graph(code, seed):
    """The code with another next row, another kind, or one label more or less at a row; where that is no code, itself."""
    rng = random.Random(seed)
    row = rng.randrange(len(code.rows))
    rows = list(code.rows)
    kind, nexts, says, changes = rows[row]
    to = rng.randrange(len(rows))
    size = code.counts[row] + 1

    def forms(spot, asked=0):
        return tuple((rng.getrandbits(code.width),) + (1,) * (size - 1 + asked) for _ in range(code.counts[spot]))
    made = [(kind, nexts[:-1] + (to,), says, changes[:-1] + (forms(to, kind == "ask"),)) if nexts else
            ("go", (to,), says, (forms(to),)), ("stop", (), says, ()),
            ("choose", nexts + (to,), says, tuple(forms(spot) for spot in nexts + (to,))),
            ("choose", nexts[1:] or (to,), says, tuple(forms(spot) for spot in nexts[1:] or (to,))),
            ("ask", (nexts + (to,))[:1], says, (forms((nexts + (to,))[0], 1),)),
            ("go", (nexts + (to,))[:1], says, (forms((nexts + (to,))[0]),))]
    rows[row] = rng.choice([item for item in made if len(item[1]) <= 6])
    return Code(code.width, code.counts, rows, code.start)


def moved_code(code, seed):
    """The code with its rows in another order, but for row 0, and with copies of some of them."""
    rng = random.Random(seed)
    places = list(range(1, len(code.rows))) + [rng.randrange(len(code.rows)) for _ in range(rng.randint(0, 4))]
    rng.shuffle(places)
    places = [0] + places
    rows = []
    for at in places:
        kind, nexts, says, changes = code.rows[at]
        behind = tuple(rng.choice([k for k, row in enumerate(places) if row == to]) for to in nexts)
        rows.append((kind, behind, says, changes))
    return Code(code.width, [code.counts[at] for at in places], rows, code.start)


def random_guesses(program, seed, most=4):
    """Guesses that a number tells."""
    rng = random.Random(seed)

    def number():
        return rng.choice([0, 0, 0, 1, 1, 2, -1, rng.getrandbits(program.width)])
    return [(rng.randrange(len(program)), tuple(number() for _ in range(len(program.variables) + 1)))
            for _ in range(rng.randint(0, most))]


def asking_program(seed):
    """A small program that asks for all variables first, so that guesses at the row behind leave less to be kept."""
    rng = random.Random(seed)
    width, size = rng.choice([(1, 2), (2, 2), (1, 3), (3, 2)])
    later = random_program(seed, width, size, rng.randint(3, 7))
    names = later.variables
    rows = [("ask", name, at + 1) for at, name in enumerate(names)]
    for item in later.rows:
        nexts = tuple([to + size for to in item[-1]]) if item[0] == "choose" else item[-1:]
        rows.append(item if item[0] == "stop" else ("choose", nexts) if item[0] == "choose" else
                    item[:-1] + (item[-1] + size,))
    return Program(width, names, rows)


def equal_guesses(program, seed):
    """Guesses that two variables are equal, or that one is 0, where all of them have been asked for."""
    rng = random.Random(seed)
    size = len(program.variables)

    def form():
        at, other = rng.sample(range(1, size + 1), 2)
        return tuple(1 if place == at else rng.choice([0, -1]) if place == other else 0 for place in range(size + 1))
    return [(rng.choice([size, size, rng.randrange(len(program))]), form()) for _ in range(rng.randint(1, 3))]


def changed_guess_code(code, seed):
    """The GuessCode with one number changed: of one of its codes, or of the ways back."""
    rng = random.Random(seed)
    backs = [[list(form) for form in forms] for forms in code.backs]
    places = [(look, at, place) for look, forms in enumerate(backs) for at, form in enumerate(forms)
              for place in range(len(form))]
    which = rng.randrange(4)
    if which == 0 or not places:
        return GuessCode(changed_code(code.quick, seed), code.plain, code.backs)
    if which == 1:
        return GuessCode(code.quick, changed_code(code.plain, seed), code.backs)
    look, at, place = rng.choice(places)
    backs[look][at][place] += 1 + rng.randrange((1 << code.quick.width) - 1)
    return GuessCode(code.quick, code.plain, [tuple(tuple(form) for form in forms) for forms in backs])


def padded_guess_code(code, junk, zeros):
    """The same GuessCode with more registers: see `padded_code`."""
    more = junk + zeros
    backs = [tuple(form + (0,) * more for form in forms) + ((0,) * (code.quick.counts[len(code.plain.rows) + at] + 1 + more),) * more
             for at, forms in enumerate(code.backs)]
    return GuessCode(padded_code(code.quick, junk, zeros), padded_code(code.plain, junk, zeros), backs)


def loop_program(seed):
    """A program that is one round from row 0 to row 0: it says something, or nothing, and often its states fade."""
    rng = random.Random(seed)
    size = rng.randint(1, 6)
    width = rng.choice([1, 2, 3, 4, 5]) if size < 4 else rng.choice([1, 2, 3])
    names = "abcdef"[:size]
    many = rng.randint(1, 9)
    rows = []
    for row in range(many):
        to = (row + 1) % many
        form = tuple(rng.choice([0, 1, 1, 2, -1, rng.getrandbits(width)]) for _ in range(size + 1))
        if rng.random() < 0.2:
            rows.append(("say", form, to))
        else:
            rows.append(("set", rng.choice(names), form, to))
    return Program(width, list(names), rows)
