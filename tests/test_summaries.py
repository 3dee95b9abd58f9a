"""What functions return and what is wanted in them, through calls: points 2, 3 and 72 to 74."""

import random
import unittest

from leastkeep.calls import Calls, run_function
from leastkeep.errors import NoForm, NoFunction, NoRow, NoRun
from leastkeep.hulls import hull, nonzero, relations
from leastkeep.modules import echelon, generators
from leastkeep.programs import Program
from leastkeep.summaries import (escapes, hull_in, nonzero_in, relations_in, result_form, summary, summary_runs,
                                 wanted_in)
from leastkeep.wants import wanted
from tests import brute, brute_calls
from tests.samples import climbing, no_integers, no_sequences, random_program


def states_of(width, found):
    base, module = found
    return {tuple((a + b) % 2 ** width for a, b in zip(base, item))
            for item in brute.module_of(width, len(base), module)}


def with_return(rows):
    return tuple(rows) + (("return", (0, 0)),)


def main_that(rows, names=("x",)):
    """A program whose function 0 has some rows."""
    return ("main", (), names, tuple(rows))


class Small(unittest.TestCase):
    def check_summary(self, program, function, results):
        width = program.width
        found, runs = summary(program, function), summary_runs(program, function)
        if not results:
            self.assertEqual((found, runs, escapes(program, function, [])), (None, [], None))
            return
        self.assertEqual([type(part) for part in (found,) + found + (runs,)], [tuple, tuple, list, list])
        base, module = found
        self.assertEqual(module, echelon(width, len(base), module))
        self.assertTrue(all(base[row.index(pivot)] < pivot for row in module
                            for pivot in [next(number for number in row if number)]))
        self.assertEqual(states_of(width, found), brute.hull_of(width, results))
        forms = [result_form(program, function, numbers) for numbers in runs]
        self.assertEqual(len(runs), 1 + generators(width, len(base), module))
        self.assertEqual({type(numbers) for numbers in runs}, {tuple})
        self.assertEqual(brute.hull_of(width, forms), states_of(width, found))
        self.assertIsNone(escapes(program, function, forms))
        for at in range(len(forms)):
            rest = forms[:at] + forms[at + 1:]
            numbers = escapes(program, function, rest)
            self.assertIs(type(numbers), tuple)
            escaped = result_form(program, function, numbers)
            self.assertTrue(not rest or escaped not in brute.hull_of(width, rest))

    def test_results_of_small_programs(self):
        many = [0, 0]
        for seed in range(150):
            program = brute_calls.random_calls(seed)
            for function, results in enumerate(brute_calls.all_results(program)):
                self.check_summary(program, function, results)
                many[len(results) > 1] += 1
        self.assertGreater(min(many), 20)

    def test_forms_of_runs(self):
        many = 0
        for seed in range(200):
            program = brute_calls.random_calls(seed)
            for function, (_, parameters, _, _) in enumerate(program.functions):
                numbers, done = brute_calls.some_run(program, function, seed)
                if done:
                    many += 1
                    form = result_form(program, function, numbers)
                    self.assertEqual(len(form), len(parameters) + 1)
                    for values in ([0] * len(parameters), [3, 5][:len(parameters)], [2, 1][:len(parameters)]):
                        self.assertEqual(brute.value_of(form, values, program.width),
                                         run_function(program, function, values, numbers)[1])
                else:
                    with self.assertRaises(NoRun) as caught:
                        result_form(program, function, numbers)
                    self.assertEqual(caught.exception.index, len(numbers))
        self.assertGreater(many, 100)

    def check_states(self, program, function, row, states, seed):
        width, size = program.width, len(brute_calls.names_of(program, function))
        found, forms = hull_in(program, function, row), relations_in(program, function, row)
        self.assertEqual(forms, echelon(width, size + 1, forms))
        drawn = random.Random(seed).sample(brute.all_forms(width, size), 4)
        if states is None:
            self.assertEqual((found, len(forms)), (None, size + 1))
            self.assertEqual([nonzero_in(program, function, row, form) for form in drawn], [None] * 4)
            return
        self.assertEqual(states_of(width, found), brute.hull_of(width, states))
        zeros = {form for form in brute.all_forms(width, size)
                 if not any(brute.value_of(form, state, width) for state in states)}
        self.assertEqual(brute.module_of(width, size + 1, forms), zeros)
        for form in drawn:
            numbers = nonzero_in(program, function, row, form)
            self.assertEqual(numbers is None, form in zeros)
            if numbers is not None:
                stack = run_function(program, 0, (), numbers)[0]
                self.assertEqual((type(numbers), stack[-1][:2]), (tuple, (function, row)))
                self.assertTrue(brute.value_of(form, stack[-1][2], width))

    def test_states_of_small_programs(self):
        for seed in range(110):
            program = brute_calls.random_calls(seed)
            states = brute_calls.all_states(program)
            for function, (_, _, _, rows) in enumerate(program.functions):
                for row in range(len(rows)):
                    self.check_states(program, function, row, states.get((function, row)), seed)

    def test_wanted_of_small_programs(self):
        whole_ones = 0
        for seed in range(110):
            program = brute_calls.random_calls(seed)
            for function, (_, _, _, rows) in enumerate(program.functions):
                size = len(brute_calls.names_of(program, function))
                for row in range(len(rows)):
                    found = wanted_in(program, function, row)
                    self.assertEqual(found, echelon(program.width, size, found))
                    parts, whole = brute_calls.parts_behind(program, function, row, 2)
                    there = brute.module_of(program.width, size, sorted(parts))
                    told = brute.module_of(program.width, size, found)
                    self.assertLessEqual(there, told)
                    if whole:
                        self.assertEqual(there, told)
                    whole_ones += whole
        self.assertGreater(whole_ones, 400)

    def test_programs_without_calls(self):
        for seed in range(60):
            program = random_program(seed)
            rows = tuple(("return", (0,) * (len(program.variables) + 1)) if item[0] == "stop" else item
                         for item in program.rows)
            calls = Calls(program.width, [("main", (), program.variables, rows)])
            for row in range(len(rows)):
                self.assertEqual(hull_in(calls, 0, row), hull(program, row))
                self.assertEqual(relations_in(calls, 0, row), relations(program, row))
                self.assertEqual(wanted_in(calls, 0, row), wanted(program, row))
                form = tuple(random.Random(seed + row).getrandbits(3) for _ in range(len(program.variables) + 1))
                found = nonzero_in(calls, 0, row, form)
                self.assertEqual(found is None, nonzero(program, row, form) is None)


class Results(unittest.TestCase):
    def test_examples(self):
        self.assertEqual(summary(climbing(), 1), ((0, 0), [(2, 0), (0, 1)]))
        self.assertEqual([len(numbers) for numbers in summary_runs(climbing(), 1)], [2, 5, 8])
        self.assertEqual([result_form(climbing(), 1, numbers) for numbers in
                          [(0, 0), (1, 0, 0, 0, 0), (1, 0, 1, 0, 0, 0, 0, 0)]], [(0, 1), (2, 2), (8, 4)])
        self.assertIsNone(escapes(climbing(), 1, [(0, 0), (2, 0), (0, 1)]))
        self.assertIsNotNone(escapes(climbing(), 1, [(0, 1), (2, 2)]))

    def test_a_function_that_never_returns(self):
        rows = (("call", "r", "g", ((0, 1, 0),), 1), ("return", (0, 1, 0)))
        program = Calls(8, [main_that([("call", "x", "g", ((0, 1),), 1), ("say", (0, 1), 0)]), ("g", ("n",), ("r",), rows)])
        self.assertEqual([summary(program, function) for function in (0, 1)], [None, None])
        self.assertEqual([summary_runs(program, function) for function in (0, 1)], [[], []])
        self.assertEqual([escapes(program, 1, forms) for forms in ([], ((0, 0),))], [None, None])
        self.assertEqual(hull_in(program, 1, 0), ((0, 0), []))
        self.assertEqual([hull_in(program, 0, 1), hull_in(program, 1, 1)], [None, None])
        self.assertEqual(relations_in(program, 0, 1), [(1, 0), (0, 1)])
        self.assertEqual([wanted_in(program, 0, 0), wanted_in(program, 0, 1)], [[], [(1,)]])
        self.assertEqual([wanted_in(program, 1, 0), wanted_in(program, 1, 1)], [[], [(1, 0)]])

    def test_one_that_calls_itself_at_once(self):
        rows = (("call", "n", "g", ((1, 1),), 1), ("choose", (2, 0)), ("return", (0, 1)))
        program = Calls(8, [main_that([("look", 0)]), ("g", ("n",), (), rows)])
        self.assertEqual((summary(program, 1), summary_runs(program, 1), escapes(program, 1, [])), (None, [], None))
        rows = (("choose", (1, 2)), ("call", "n", "g", ((1, 1),), 0), ("return", (0, 1)))
        program = Calls(8, [main_that([("look", 0)]), ("g", ("n",), (), rows)])
        self.assertEqual(summary(program, 1), ((0, 1), [(1, 0)]))
        self.assertEqual(sorted(result_form(program, 1, numbers) for numbers in summary_runs(program, 1)), [(0, 1), (1, 1)])

    def test_no_parameters(self):
        program = Calls(8, [main_that([("ask", "x", 1), ("choose", (2, 3)), ("set", "x", (0, 2), 3), ("return", (3, 4))])])
        self.assertEqual(summary(program, 0), ((3,), [(4,)]))
        self.assertEqual(len(summary_runs(program, 0)), 2)
        self.assertEqual(result_form(program, 0, [5, 1, 0]), (23,))
        self.assertIsNone(escapes(program, 0, [(3,), [7]]))
        self.assertIsNotNone(escapes(program, 0, [(3,), [11]]))

    def test_what_is_asked_is_in_the_constant(self):
        rows = (("ask", "r", 1), ("return", (0, 2, 1, 0)))
        program = Calls(8, [main_that([("look", 0)]), ("g", ("n", "m"), ("r",), rows[:1] + (("return", (1, 0, 2, 3)),))])
        self.assertEqual(result_form(program, 1, [9, 0]), (28, 0, 2))
        self.assertEqual(summary(program, 1), ((0, 0, 2), [(1, 0, 0)]))

    def test_mutual_recursion(self):
        even = (("choose", (1, 2)), ("return", (0, 1, 0)), ("call", "r", "odd", ((2, 3, 0),), 3), ("return", (0, 0, 1)))
        odd = (("call", "r", "even", ((0, 1, 0),), 1), ("return", (4, 0, 1)))
        program = Calls(8, [main_that([("look", 0)]), ("even", ("n",), ("r",), even), ("odd", ("n",), ("r",), odd)])
        self.assertEqual(result_form(program, 1, [1, 0, 0, 0, 0, 0, 0]), (6, 3))
        # n, 3 n + 6, 9 n + 16, 27 n + 38, and so on; 4 more in the other one.
        self.assertEqual(summary(program, 1), ((0, 1), [(2, 6), (0, 8)]))
        self.assertEqual(summary(program, 2), ((0, 5), [(2, 6), (0, 8)]))
        self.assertIsNone(escapes(program, 1, [(0, 1), (6, 3), (16, 9)]))
        self.assertIsNone(escapes(program, 1, [(0, 9), (0, 1), (2, 7), (2, 7)]))
        self.assertIsNotNone(escapes(program, 1, [(0, 1), (2, 7), (0, 17)]))
        self.assertIsNotNone(escapes(program, 2, [(0, 1), (0, 9), (4, 13)]))

    def test_thousands_of_calls(self):
        many = 5000
        program = Calls(64, climbing().functions)
        numbers = [1, 0] * many + [0, 0] + [0] * many
        self.assertEqual(result_form(program, 1, numbers), (many * 2 ** many % 2 ** 64, 2 ** many % 2 ** 64))
        small = [1, 0] * 3 + [0, 0] + [0] * 3
        self.assertEqual(result_form(program, 1, small), (24, 8))

    def test_long_runs(self):
        """Each function calls the next one eleven times: the shortest run to the return is long."""
        def calling(name, other):
            return (name, (), ("x",), with_return([("call", "x", other, (), at + 1) for at in range(11)]))
        last = ("i", (), ("x",), (("ask", "x", 1), ("return", (0, 3))))
        program = Calls(64, [calling("f", "g"), calling("g", "h"), calling("h", "i"), last])
        self.assertEqual(summary(program, 0), ((0,), []))
        self.assertEqual([len(numbers) for numbers in summary_runs(program, 0)], [1 + 11 * (2 + 11 * (2 + 11 * 3))])
        self.assertEqual(summary(program, 3), ((0,), [(1,)]))
        self.assertEqual(hull_in(program, 3, 1), ((0,), [(1,)]))

    def test_wide_results(self):
        rows = (("choose", (1, 2)), ("return", (0, 1, 0, 0)), ("call", "r", "g", ((1, 3, 2 ** 63), (7, 0, 1)), 3),
                ("set", "r", (5, 0, 2 ** 32, 1), 4), ("return", (0, 0, 0, 1)))
        rows = tuple(item if item[0] != "call" else
                     item[:3] + (((1, 3, 2 ** 63, 0), (7, 0, 1, 0)),) + item[4:] for item in rows)
        program = Calls(64, [main_that([("look", 0)]), ("g", ("n", "m"), ("r",), rows)])
        base, module = summary(program, 1)
        forms = [(0, 1, 0)]
        for _ in range(40):
            c, n, m = forms[-1]
            forms.append(((c + n + 7 * m + 5) % 2 ** 64, 3 * n % 2 ** 64, (n * 2 ** 63 + m + 2 ** 32) % 2 ** 64))
        numbers = [1, 0] * 40 + [0, 0] + [0, 0] * 40
        self.assertEqual(result_form(program, 1, numbers), forms[-1])
        differences = [tuple(a - b for a, b in zip(form, forms[0])) for form in forms]
        self.assertEqual(module, echelon(64, 3, differences))
        self.assertEqual(len(summary_runs(program, 1)), 1 + generators(64, 3, differences))
        self.assertIsNone(escapes(program, 1, forms))


class Wanting(unittest.TestCase):
    def test_the_sessions_of_climbing(self):
        self.assertEqual([wanted_in(climbing(), 0, row) for row in range(3)], [[], [(1,)], [(1,)]])
        # What f returns is doubled behind its own call of itself, but not behind that of main.
        self.assertEqual([wanted_in(climbing(), 1, row) for row in range(4)], [[(1, 0)], [(1, 0)], [(2, 0)], [(0, 2)]])

    def test_a_result_used_behind_one_call_alone(self):
        main = main_that([("choose", (1, 4)), ("call", "x", "g", ((0, 1, 0),), 2), ("say", (0, 1, 0), 3),
                          ("return", (0, 0, 0)), ("call", "x", "g", ((0, 0, 1),), 5), ("return", (0, 0, 0))], ("x", "y"))
        program = Calls(8, [main, ("g", ("n",), (), (("look", 1), ("return", (0, 4))))])
        self.assertEqual(wanted_in(program, 0, 1), [(1, 0)])
        self.assertEqual(wanted_in(program, 0, 4), [(0, 1)])
        silent = Calls(8, [main, ("g", ("n",), (), (("return", (0, 4)),))])
        self.assertEqual([wanted_in(silent, 0, row) for row in (0, 1, 2, 4, 5)], [[(4, 0)], [(4, 0)], [(1, 0)], [], []])
        self.assertEqual(wanted_in(silent, 1, 0), [(4,)])
        self.assertEqual(wanted_in(program, 1, 1), [(4,)])

    def test_a_result_that_is_handed_on(self):
        main = main_that([("ask", "x", 1), ("call", "y", "g", ((0, 1, 0),), 2), ("call", "x", "h", ((0, 0, 2),), 3),
                          ("return", (0, 0, 0))], ("x", "y"))
        program = Calls(8, [main, ("g", ("n",), (), (("return", (0, 8)),)), ("h", ("n",), (), (("say", (0, 4), 1), ("return", (0, 0))))])
        self.assertEqual([wanted_in(program, 0, row) for row in range(4)], [[], [(64, 0)], [(0, 8)], []])
        self.assertEqual(wanted_in(program, 1, 0), [(64,)])
        self.assertEqual([wanted_in(program, 2, row) for row in (0, 1)], [[(4,)], []])

    def test_a_result_beside_what_was_handed_over(self):
        main = main_that([("ask", "y", 1), ("call", "x", "g", ((5, 0, 3),), 2), ("say", (0, 1, 1), 3), ("return", (0, 0, 0))],
                         ("x", "y"))
        program = Calls(8, [main, ("g", ("n",), (), (("return", (1, 5)),))])
        self.assertEqual([wanted_in(program, 0, row) for row in (0, 1, 2)], [[], [(0, 16)], [(1, 1)]])
        both = (("choose", (1, 2)), ("return", (1, 5)), ("return", (0, 2)))
        program = Calls(8, [main, ("g", ("n",), (), both)])
        # y is said 16 times, or 7 times.
        self.assertEqual(wanted_in(program, 0, 1), [(0, 1)])
        program = Calls(8, [main, ("g", ("n",), (), both[:2] + (("return", (0, 1)),))])
        self.assertEqual(wanted_in(program, 0, 1), [(0, 4)])

    def test_rows_that_no_run_reaches(self):
        main = main_that([("call", "x", "g", ((0, 1),), 1), ("say", (0, 2), 1), ("say", (0, 8), 2)])
        inner = (("return", (0, 1, 0)), ("say", (0, 0, 4), 2), ("call", "r", "h", ((0, 1, 0),), 0))
        last = (("say", (0, 1), 1), ("return", (0, 4)))
        program = Calls(8, [main, ("g", ("n",), ("r",), inner), ("h", ("n",), (), last)])
        self.assertEqual([hull_in(program, *place) for place in [(0, 2), (1, 1), (1, 2), (2, 0), (2, 1)]], [None] * 5)
        self.assertEqual(wanted_in(program, 0, 2), [(8,)])
        # In g behind row 1: r and n are said, in h too; and n is returned to main, where it is said twice.
        self.assertEqual([wanted_in(program, 1, row) for row in range(3)], [[(2, 0)], [(1, 0), (0, 4)], [(1, 0)]])
        # The call of h in g is reached by no run: what it returns counts behind no call.
        self.assertEqual([wanted_in(program, 2, row) for row in range(2)], [[(1,)], []])

    def test_a_function_that_nobody_calls(self):
        program = Calls(8, [main_that([("look", 0)]), ("g", ("n",), (), (("say", (0, 2), 1), ("return", (0, 1))))])
        self.assertEqual([wanted_in(program, 1, row) for row in (0, 1)], [[(2,)], []])
        self.assertEqual([hull_in(program, 1, row) for row in (0, 1)], [None, None])
        self.assertEqual(relations_in(program, 1, 0), [(1, 0), (0, 1)])
        self.assertIsNone(nonzero_in(program, 1, 0, (1, 0)))

    def test_through_calls_of_callers(self):
        main = main_that([("call", "x", "g", ((0, 1),), 1), ("say", (0, 2), 2), ("return", (0, 0))])
        g = ("g", ("n",), (), (("call", "n", "h", ((0, 1),), 1), ("return", (0, 3))))
        h = ("h", ("n",), (), (("set", "n", (1, 4), 1), ("return", (0, 1))))
        program = Calls(8, [main, g, h])
        self.assertEqual([wanted_in(program, 2, row) for row in (0, 1)], [[(8,)], [(2,)]])
        self.assertEqual([wanted_in(program, 1, row) for row in (0, 1)], [[(8,)], [(2,)]])
        self.assertEqual(hull_in(program, 2, 1), ((1,), []))

    def test_returns_of_the_program(self):
        program = Calls(8, [main_that([("ask", "x", 1), ("return", (0, 1))])])
        self.assertEqual([wanted_in(program, 0, row) for row in (0, 1)], [[], []])
        calls = Calls(8, [main_that([("ask", "x", 1), ("choose", (2, 4)), ("call", "x", "main", (), 3), ("look", 4),
                                     ("return", (0, 2))])])
        self.assertEqual([wanted_in(calls, 0, row) for row in range(5)], [[], [(2,)], [], [(1,)], [(2,)]])
        self.assertEqual(summary(calls, 0), ((0,), [(2,)]))


class Wrong(unittest.TestCase):
    ALL = [(summary, ()), (summary_runs, ()), (result_form, (None,)), (escapes, (None,)), (hull_in, (None,)),
           (relations_in, (None,)), (wanted_in, (None,)), (nonzero_in, (None, None))]

    def test_no_function(self):
        for asked, more in self.ALL:
            for bad in no_integers() + [-1, 2, 10 ** 30]:
                with self.assertRaises(NoFunction) as caught:
                    asked(climbing(), bad, *more)
                self.assertIs(caught.exception.function, bad)

    def test_no_row(self):
        for asked, more in self.ALL[4:]:
            for bad in no_integers() + [-1, 4, 10 ** 30]:
                with self.assertRaises(NoRow) as caught:
                    asked(climbing(), 1, bad, *more[1:])
                self.assertIs(caught.exception.row, bad)
            with self.assertRaises(NoRow):
                asked(climbing(), 0, 3, *more[1:])

    def test_no_run(self):
        for numbers, index in [([0, 1], 1), ([0, 0, 0], 2), ([2], 0), ([1, 0, 0, 0, False], 4), ((), 0), ([0], 1),
                               ([1, 0, 0], 3), ([1, 0, 1, 0, 0, 0, 0], 7)] + [(bad, -1) for bad in no_sequences()]:
            with self.assertRaises(NoRun) as caught:
                result_form(climbing(), 1, numbers)
            self.assertEqual(caught.exception.index, index)
        for bad in no_integers():
            with self.assertRaises(NoRun) as caught:
                result_form(climbing(), 1, [0, bad])
            self.assertEqual(caught.exception.index, 1)

    def no_form(self, index, asked, *arguments):
        with self.assertRaises(NoForm) as caught:
            asked(climbing(), *arguments)
        self.assertEqual(caught.exception.index, index)

    def test_no_form(self):
        for bad in no_sequences() + [(), (0,), (0, 1, 2, 3), "abc"]:
            self.no_form(-1, nonzero_in, 1, 0, bad)
            if bad != (0,):
                self.no_form(-1, nonzero_in, 0, 0, bad)
        self.no_form(-1, nonzero_in, 0, 1, (0,))
        for bad in no_integers():
            self.no_form(0, nonzero_in, 1, 3, (bad, None, 1))
            self.no_form(2, nonzero_in, 1, 3, [0, 5, bad])
        for bad in no_sequences() + [(), (0,), (0, 1, 2), "ab"]:
            self.no_form(-1, escapes, 1, [bad])
            self.no_form(-1, escapes, 1, ((0, 1), [5, 5], bad, (None, 0)))
        for bad in no_integers():
            self.no_form(1, escapes, 1, [(0, 1), (0, bad), (bad, 0)])
            self.no_form(0, escapes, 1, [(bad, bad), None])

    def test_forms_that_are_no_list(self):
        for bad in no_sequences():
            self.no_form(-1, escapes, 1, bad)


class Arguments(unittest.TestCase):
    def test_names(self):
        program = climbing()
        self.assertEqual(summary(function=1, program=program), summary(program, 1))
        self.assertEqual(summary_runs(function=1, program=program), summary_runs(program, 1))
        self.assertEqual(result_form(numbers=[0, 0], function=1, program=program), (0, 1))
        self.assertEqual(escapes(forms=(), function=1, program=program), escapes(program, 1, []))
        self.assertEqual(hull_in(row=1, function=1, program=program), ((0, 0), [(1, 0)]))
        self.assertEqual(relations_in(row=1, function=1, program=program), [(0, 0, 1)])
        self.assertEqual(wanted_in(row=2, function=1, program=program), [(2, 0)])
        self.assertIsNone(nonzero_in(form=(0, 0, 1), row=1, function=1, program=program))

    def test_lists_and_tuples_and_any_integers(self):
        program = climbing()
        for forms in ([(0, 1), (2, 2)], ((0, 1), [2, 2]), [[256, -255], (258, 2 - 2 ** 70)]):
            found = escapes(program, 1, forms)
            self.assertEqual(found, escapes(program, 1, [(0, 1), (2, 2)]))
        self.assertIsNone(escapes(program, 1, [(256, -255), [2, 256], (0, 2)]))
        self.assertEqual(nonzero_in(program, 1, 3, [0, 1, 1]), nonzero_in(program, 1, 3, (-256, 257, 1 + 2 ** 80)))
        self.assertIsNone(nonzero_in(program, 1, 3, [256, 512, -256]))

    def test_arguments_stay_and_lists_are_new(self):
        program, forms, numbers = climbing(), [[0, 1], [2, 2]], [0, 0]
        for asked, arguments in [(summary, (1,)), (hull_in, (1, 3))]:
            wished = asked(program, *arguments)
            asked(program, *arguments)[1].append(1)
            self.assertEqual(asked(program, *arguments), wished)
        for asked, arguments in [(summary_runs, (1,)), (relations_in, (1, 1)), (wanted_in, (1, 1))]:
            wished = asked(program, *arguments)
            asked(program, *arguments).clear()
            self.assertEqual(asked(program, *arguments), wished)
        escapes(program, 1, forms)
        result_form(program, 1, numbers)
        self.assertEqual((program, forms, numbers), (climbing(), [[0, 1], [2, 2]], [0, 0]))


if __name__ == "__main__":
    unittest.main()
