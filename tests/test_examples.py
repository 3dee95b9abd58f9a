"""The sessions of the document, and the interface: names, arguments, and in which file each thing is defined."""

import importlib
import inspect
import unittest

from leastkeep import errors

SESSIONS = [
    """
>>> from leastkeep.programs import Program
>>> from leastkeep.runs import run
>>> double = Program(8, ["x", "y"], [("ask", "x", 1), ("set", "y", (3, 1, 0), 2), ("choose", (3, 4)), ("say", (0, 1, 1), 2), ("stop",)])
>>> run(double, [5, 0, 0, 0])
(2, (5, 8), [13])
""",
    """
>>> from leastkeep.programs import Program
>>> Program(8, ["x", "x"], [("stop",)])
raises NoProgram('variables', 1)
""",
    """
>>> from leastkeep.programs import Program
>>> from leastkeep.codes import Code
>>> from leastkeep.judging import judge
>>> one = Program(8, ["x"], [("ask", "x", 1), ("say", (0, 2), 2), ("stop",)])
>>> code = Code(8, [0, 1, 0], [("ask", (1,), (), (((0, 2),),)), ("go", (2,), ((0, 1),), ((),)), ("stop", (), (), ())], ())
>>> judge(one, code) is None
True
""",
    """
>>> from leastkeep.modules import count, echelon
>>> [echelon(3, 2, [(2, 1)]), count(3, 2, [(2, 1)])]
[[(2, 1), (0, 4)], 8]
""",
    """
>>> from leastkeep.modules import coefficients, is_in
>>> [is_in(3, 2, [(2, 1)], (4, 2)), is_in(3, 2, [(2, 1)], (2, 2)), coefficients(3, 2, [(2, 1)], (0, 4))]
[True, False, (4,)]
""",
    """
>>> from leastkeep.modules import kernel, meet
>>> [kernel(3, 2, [(2, 1)]), meet(3, 2, [(2, 1)], [(0, 1)])]
[[(1, 6)], [(0, 4)]]
""",
    """
>>> from leastkeep.modules import generators
>>> generators(3, 2, [(2, 0), (0, 4), (2, 4)])
2
""",
    """
>>> from leastkeep.modules import smith
>>> smith(3, [(2, 4), (2, 0)])
[1, 2]
""",
    """
>>> from leastkeep.programs import Program
>>> from leastkeep.behaviours import least_numbers
>>> double = Program(8, ["x", "y"], [("ask", "x", 1), ("set", "y", (3, 1, 0), 2), ("choose", (3, 4)), ("say", (0, 1, 1), 2), ("stop",)])
>>> least_numbers(double)
[0, 1, 1, 1, 0]
""",
    """
>>> from leastkeep.programs import Program
>>> from leastkeep.behaviours import least
>>> half = Program(4, ["x"], [("ask", "x", 1), ("set", "x", (0, 8), 2), ("say", (0, 2), 0)])
>>> least(half, 2)
0
""",
    """
>>> from leastkeep.programs import Program
>>> double = Program(8, ['x', 'y'], [('ask', 'x', 1), ('set', 'y', (3, 1, 0), 2), ('choose', (3, 4)), ('say', (0, 1, 1), 2), ('stop',)])
>>> from leastkeep.compiling import compiled
>>> compiled(double).counts
(0, 1, 1, 1, 0)
""",
    """
>>> from leastkeep.programs import Program
>>> from leastkeep.codes import Code
>>> once = Program(8, ['x'], [('ask', 'x', 1), ('say', (0, 2), 2), ('stop',)])
>>> twice = Code(8, [0, 1, 0], [('ask', (1,), (), (((0, 2),),)), ('go', (2,), ((0, 1),), ((),)), ('stop', (), (), ())], ())
>>> from leastkeep.compiling import compiled
>>> from leastkeep.recipes import takeover
>>> [takeover(once, twice, 1), takeover(once, compiled(once), 1) is None]
[None, False]
""",
    """
>>> from leastkeep.programs import Program
>>> from leastkeep.codes import Code
>>> once = Program(8, ['x'], [('ask', 'x', 1), ('say', (0, 2), 2), ('stop',)])
>>> twice = Code(8, [0, 1, 0], [('ask', (1,), (), (((0, 2),),)), ('go', (2,), ((0, 1),), ((),)), ('stop', (), (), ())], ())
>>> from leastkeep.recipes import check_recipe
>>> check_recipe(once, twice, 1, ((0, 1),)) is None
False
""",
    """
>>> from leastkeep.programs import Program
>>> double = Program(8, ['x', 'y'], [('ask', 'x', 1), ('set', 'y', (3, 1, 0), 2), ('choose', (3, 4)), ('say', (0, 1, 1), 2), ('stop',)])
>>> from leastkeep.recipes import given_back
>>> given_back(double, 3)
[(1, 1), (0, 2)]
""",
    """
>>> from leastkeep.programs import Program
>>> double = Program(8, ['x', 'y'], [('ask', 'x', 1), ('set', 'y', (3, 1, 0), 2), ('choose', (3, 4)), ('say', (0, 1, 1), 2), ('stop',)])
>>> from leastkeep.equality import apart
>>> rows = list(double.rows)
>>> rows[3] = ('say', (3, 2, 0), 2)
>>> same = Program(8, ['x', 'y'], rows)
>>> rows[3] = ('say', (4, 2, 0), 2)
>>> [apart(double, same), len(apart(double, Program(8, ['x', 'y'], rows)))]
[None, 4]
""",
    """
>>> from leastkeep.programs import Program
>>> double = Program(8, ['x', 'y'], [('ask', 'x', 1), ('set', 'y', (3, 1, 0), 2), ('choose', (3, 4)), ('say', (0, 1, 1), 2), ('stop',)])
>>> from leastkeep.tables import table_of
>>> table_of(double, 2)
([((0, 0), 0)], (1,), [(2,)])
""",
    """
>>> from leastkeep.programs import Program
>>> from leastkeep.alike import alike, classes
>>> from leastkeep.joining import joined, strays
>>> p = Program(8, ['x'], [('ask', 'x', 1), ('choose', (2, 3)), ('say', (0, 1), 4), ('say', (7, 3), 4), ('stop',)])
>>> code = joined(p)
>>> [classes(p), alike(p, 2, p, 3), sorted(code.counts), strays(p, code)]
[[[0], [1], [2, 3], [4]], True, [0, 0, 1, 1], None]
""",
    """
>>> from leastkeep.programs import Program
>>> from leastkeep.splits import last_choices, split_numbers
>>> rows = [('ask', 'x', 1), ('ask', 'y', 2), ('choose', (3, 4)), ('set', 'x', (5, 0, 0), 4), ('look', 5), ('stop',)]
>>> p = Program(8, ['x', 'y'], rows)
>>> [split_numbers(p, [{(2, 0): 1}, {}]), last_choices(p)]
[[(0, 0, 0), (1, 0, 1), (2, 0, 2), (3, 1, 1), (4, 0, 2), (4, 1, 1), (5, 0, 0), (5, 1, 0)], [(2, 2)]]
""",
    """
>>> from leastkeep.programs import Program
>>> from leastkeep.guesses import guess_numbers
>>> pair = Program(8, ["x", "y"], [("ask", "x", 1), ("ask", "y", 2), ("choose", (3, 4)), ("say", (0, 1, 0), 5), ("say", (0, 0, 1), 5), ("stop",)])
>>> [guess_numbers(pair, [(2, (0, 1, -1))]), guess_numbers(pair, [])]
[[0, 1, 1, 1, 1, 0, 2], [0, 1, 2, 1, 1, 0]]
""",
    """
>>> from leastkeep.programs import Program
>>> from leastkeep.guessing import guess_code, run_guessed
>>> pair = Program(8, ["x", "y"], [("ask", "x", 1), ("ask", "y", 2), ("choose", (3, 4)), ("say", (0, 1, 0), 5), ("say", (0, 0, 1), 5), ("stop",)])
>>> code = guess_code(pair, [(2, (0, 1, -1))])
>>> [run_guessed(code, [9, 9, 1, 0])[2:], run_guessed(code, [9, 5, 1, 0])[2:]]
[([9], None), ([5], 0)]
""",
    """
>>> from leastkeep.programs import Program
>>> from leastkeep.doubts import greatest_numbers, least_guesses
>>> pair = Program(8, ["x", "y"], [("ask", "x", 1), ("ask", "y", 2), ("choose", (3, 4)), ("say", (0, 1, 0), 5), ("say", (0, 0, 1), 5), ("stop",)])
>>> bets = [(1, (0, 0, 1)), (2, (0, 1, 0)), (2, (1, 2, 0))]
>>> [greatest_numbers(pair, bets)[:4], least_guesses(pair, bets, 2), least_guesses(pair, bets, 1)]
[[((), 2), ((0,), 2), ((1,), 2), ((2,), None)], (), None]
""",
    """
>>> from leastkeep.programs import Program
>>> from leastkeep.desks import Desk
>>> desk = Desk(Program(8, ["x"], [("ask", "x", 1), ("say", (0, 2), 2), ("stop",)]))
>>> [desk.told_numbers(), desk.put(1, ("say", (7, 0), 2)), desk.exchange(1, 2), desk.undo(), desk.undo(), desk.undo()]
[[0, 1, 0], [1], [], True, True, False]
""",
    """
>>> from leastkeep.programs import Program
>>> from leastkeep.far import far_state
>>> p = Program(8, ["x", "y"], [("set", "x", (1, 3, 0), 1), ("say", (0, 1, 1), 0)])
>>> far_state(p, 0, [0, 0], (0, 5), 2)
(4, 5)
""",
    """
>>> from leastkeep.programs import Program
>>> from leastkeep.far import far_said
>>> p = Program(8, ["x", "y"], [("set", "x", (1, 3, 0), 1), ("say", (0, 1, 1), 0)])
>>> far_said(p, 0, [0, 0], (0, 5), 1)
9
""",
    """
>>> from leastkeep.programs import Program
>>> from leastkeep.far import comes_back
>>> p = Program(8, ["x", "y"], [("set", "x", (1, 3, 0), 1), ("say", (0, 1, 1), 0)])
>>> comes_back(p, 0, [0, 0], (0, 5))
(0, 128)
""",
    """
>>> from leastkeep.programs import Program
>>> from leastkeep.far import first_round
>>> p = Program(8, ["x", "y"], [("set", "x", (1, 3, 0), 1), ("say", (0, 1, 1), 0)])
>>> first_round(p, 0, [0, 0], (0, 5), (0, 1, 0), 13)
3
""",
    """
>>> from leastkeep.programs import Program
>>> from leastkeep.far import rounds_with
>>> p = Program(8, ["x", "y"], [("set", "x", (1, 3, 0), 1), ("say", (0, 1, 1), 0)])
>>> rounds_with(p, 0, [0, 0], (0, 5), (0, 1, 0), 13, 10 ** 30)
7812500000000000000000000000
""",
    """
>>> from leastkeep.programs import Program
>>> from leastkeep.texts import show_program
>>> p = Program(8, ["x", "y"], [("set", "x", (1, 3, 0), 1), ("say", (0, 1, 1), 0)])
>>> show_program(p)
'width 8\\nvariables x y\\n0: set x = 1 + 3 x -> 1\\n1: say x + y -> 0\\n'
""",
    """
>>> from leastkeep.texts import read_program
>>> read_program("width 8\\nvariables x\\n0: look -> 1\\n")
raises NoText(line=3)
""",
    """
>>> from leastkeep.texts import read_program
>>> read_program("width 8\\nvariables x\\n0: look -> 01\\n")
raises NoText(line=2)
""",
]

INTERFACE = {
    "programs": ["Program(width, variables, rows)"],
    "runs": ["run(program, numbers)", "go_on(program, row, state, numbers)"],
    "modules": ["echelon(width, size, rows)", "kernel(width, size, rows)", "meet(width, size, one, other)",
                "is_in(width, size, rows, row)", "coefficients(width, size, rows, row)",
                "generators(width, size, rows)", "count(width, size, rows)", "picked(width, size, rows)",
                "smith(width, table)"],
    "codes": ["Code(width, counts, rows, start)", "run_code(code, numbers)"],
    "judging": ["judge(program, code)"],
    "hulls": ["hull(program, row)", "all_hulls(program)", "relations(program, row)", "nonzero(program, row, form)",
              "spanning_runs(program, row)", "is_spanning(program, row, runs)"],
    "wants": ["wanted(program, row)", "all_wanted(program)", "spanning_ways(program, row)",
              "is_wanted(program, row, form)", "is_spanning_ways(program, row, ways)",
              "told_apart(program, row, one, other)"],
    "behaviours": ["least(program, row)", "least_numbers(program)", "table(program, row, paper)",
                   "shown(program, row, paper)", "paper(program, row)"],
    "compiling": ["compiled(program)"],
    "recipes": ["takeover(program, code, row)", "check_recipe(program, code, row, recipe)",
                "given_back(program, row, code=None)"],
    "equality": ["apart(one, other)"],
    "tables": ["table_of(program, row)"],
    "alike": ["alike(one, row, other, spot)", "classes(program)"],
    "joining": ["strays(program, code)", "joined(program)"],
    "splits": ["split_numbers(program, automaton)", "split_code(program, automaton)", "last_choices(program)"],
    "guesses": ["guess_hulls(program, guesses)", "guess_wanted(program, guesses)", "guess_numbers(program, guesses)"],
    "calls": ["Calls(width, functions)", "run_function(program, function, values, numbers)"],
    "summaries": ["summary(program, function)", "summary_runs(program, function)",
                  "result_form(program, function, numbers)", "escapes(program, function, forms)",
                  "hull_in(program, function, row)", "relations_in(program, function, row)",
                  "wanted_in(program, function, row)", "nonzero_in(program, function, row, form)"],
    "far": ["far_state(program, row, numbers, state, many)", "far_said(program, row, numbers, state, at)",
            "comes_back(program, row, numbers, state)",
            "first_round(program, row, numbers, state, form, value, *, start=0)",
            "rounds_with(program, row, numbers, state, form, value, many)",
            "first_unlike(program, row, numbers, state, row_two, numbers_two, state_two)"],
    "texts": ["show_program(program)", "read_program(text)"],
    "desks": ["Desk(program)"],
    "guessing": ["GuessCode(quick, plain, backs)", "run_guessed(code, numbers)", "guess_code(program, guesses)"],
    "doubts": ["doubt(program, guesses, code)", "greatest_numbers(program, guesses)",
               "least_guesses(program, guesses, most)"],
    "errors": ["KeepError", "NoProgram(part, index)", "NoRow(row)", "NoState(index)", "NoRun(index)",
               "NoCode(row, part, index)", "NotOver(row)", "NoPaper(part, index)", "NoForm(index)", "NoRound",
               "NoCount(part)", "NoText(line)", "NoRows(part, index)", "NoAutomaton(index)",
               "NoCalls(function, part, index)", "NoFunction(function)", "NoRecipe(index)", "NoGuess(index)",
               "Refused(index)", "NoGuessCode(part, index)", "NoNumber(number)", "NoKept"],
}

METHODS = {
    ("programs", "Program"): ["__init__", "__eq__", "__len__", "__getitem__", "__iter__"],
    ("codes", "Code"): ["__init__", "__eq__"],
    ("calls", "Calls"): ["__init__", "__eq__"],
    ("guessing", "GuessCode"): ["__init__", "__eq__"],
    ("desks", "Desk"): ["__init__", "__eq__", "__len__", "__getitem__", "__iter__", "__contains__", "__bool__",
                        "told_program(self)", "told_numbers(self)", "put(self, row, item)", "exchange(self, row, other)",
                        "add(self, item)", "keep(self, code)", "drop(self, number)", "undo(self)",
                        "standing(self, number)", "best(self)"],
}


class Examples(unittest.TestCase):
    def test_sessions(self):
        for session in SESSIONS:
            lines = session.strip().splitlines()
            names = {}
            for line in lines[:-2]:
                exec(line[4:], names)
            self.check(lines[-2][4:], lines[-1], names)

    def check(self, call, told, names):
        if not told.startswith("raises "):
            self.assertEqual(repr(eval(call, names)), told)
            return
        wished = eval(told[len("raises "):], vars(errors).copy())
        with self.assertRaises(type(wished)) as caught:
            eval(call, names)
        self.assertEqual(vars(caught.exception), vars(wished))

    def test_interface(self):
        for file, lines in INTERFACE.items():
            module = importlib.import_module("leastkeep." + file)
            for line in lines:
                name = line.split("(")[0]
                made = getattr(module, name)
                if name != line:
                    self.assertEqual(name + str(inspect.signature(made)), line)
                self.assertEqual(made.__module__, "leastkeep." + file)

    def test_methods_stand_in_their_class(self):
        for (file, name), methods in METHODS.items():
            made = vars(getattr(importlib.import_module("leastkeep." + file), name))
            for line in methods:
                method = line.split("(")[0]
                self.assertIn(method, made)
                if method != line:
                    self.assertEqual(method + str(inspect.signature(made[method])), line)


if __name__ == "__main__":
    unittest.main()
