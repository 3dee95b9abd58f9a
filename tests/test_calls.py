"""Programs with calls: points 2, 3, 70 and 71."""

import random
import unittest

from leastkeep.calls import Calls, run_function
from leastkeep.errors import NoCalls, NoFunction, NoRun, NoState
from tests import brute_calls
from tests.samples import climbing, no_integers, no_sequences, odd_values

MAIN = ("main", (), ("x",), (("ask", "x", 1), ("call", "x", "f", ((0, 1),), 2), ("say", (0, 1), 0)))
F = ("f", ("n",), ("r",), (("choose", (1, 2)), ("return", (0, 1, 0)), ("call", "r", "f", ((1, 1, 0),), 3),
                           ("return", (0, 0, 2))))


class Making(unittest.TestCase):
    def test_attributes(self):
        made = Calls(8, [MAIN, F])
        self.assertEqual((made.width, made.functions), (8, (MAIN, F)))
        self.assertEqual(made, climbing())

    def test_numbers_are_taken_modulo(self):
        rows = (("call", "r", "f", ((257, -1, 256),), 1), ("set", "r", (-1, 300, 2 ** 70), 2), ("say", (-256, 1, 511), 3),
                ("return", (512, -2, 1)))
        made = Calls(8, [MAIN, ("f", ("n",), ("r",), rows)])
        self.assertEqual(made.functions[1][3],
                         (("call", "r", "f", ((1, 255, 0),), 1), ("set", "r", (255, 44, 0), 2), ("say", (0, 1, 255), 3),
                          ("return", (0, 254, 1))))
        self.assertEqual(made, Calls(8, [MAIN, ("f", ("n",), ("r",), made.functions[1][3])]))

    def test_equality(self):
        made = climbing()
        self.assertEqual(Calls(8, (MAIN, F)), made)
        others = [Calls(9, [MAIN, F]), Calls(8, [("main", (), ("y",), (("ask", "y", 0),)), F]),
                  Calls(8, [MAIN, F[:3] + (F[3][:3] + (("return", (1, 0, 2)),),)]),
                  Calls(8, [MAIN, F, ("g", (), ("x",), (("look", 0),))])]
        for other in others:
            self.assertFalse(made == other)
            self.assertTrue(made != other)
        for other in odd_values()[:-1] + no_sequences()[:-4] + [(8, (MAIN, F))]:
            if type(other) is not Calls:
                self.assertFalse(made == other)
                self.assertFalse(other == made)

    def test_the_greatest_ones(self):
        rows = (("look", 11),) * 11 + (("return", (0, 1, 1, 1, 1)),)
        names = ("abcdefgh", "a", "zzzzzzzz")
        made = Calls(64, [("x", (), names + ("b",), rows), ("y", names, ("b",), rows), ("z", names, ("b",), rows),
                          ("a", ("b",), (), (("return", (0, 1)),))])
        self.assertEqual([len(item[3]) for item in made.functions], [12, 12, 12, 1])
        Calls(1, [("x", (), ("x",), (("choose", (0,) * 6),))])

    def test_by_name_and_arguments_stay(self):
        functions = [MAIN, F]
        made = Calls(functions=functions, width=8)
        functions.pop()
        functions.append(MAIN)
        self.assertEqual(made, climbing())


class Wrong(unittest.TestCase):
    def no_calls(self, width, functions, told):
        with self.assertRaises(NoCalls) as caught:
            Calls(width, functions)
        error = caught.exception
        self.assertEqual((error.function, error.part, error.index), told)

    def no_head(self, function, part, index):
        """Wrong as function 1, also ahead of rows that are wrong, and of a later function that is wrong."""
        bad = MAIN[:3] + ((None,),)
        self.no_calls(8, [MAIN, function], (1, part, index))
        self.no_calls(8, (bad, function, None), (1, part, index))

    def no_row(self, item, rows=()):
        self.no_calls(8, [MAIN, F[:3] + (tuple(rows) + (item, None),)], (1, "rows", len(rows)))

    def test_width(self):
        for bad in no_integers() + [0, -1, 65, 10 ** 30]:
            self.no_calls(bad, None, (-1, "width", -1))

    def test_functions(self):
        for bad in no_sequences() + [[], (), [MAIN] * 5, [None] * 5]:
            self.no_calls(8, bad, (-1, "functions", -1))

    def test_function(self):
        for bad in no_sequences() + [(), F[:3], F + (0,), list(F), "abcd"]:
            self.no_calls(8, [bad], (0, "function", -1))
            self.no_head(bad, "function", -1)

    def test_name(self):
        for bad in no_sequences()[:-3] + [0, "", "abcdefghi", "F", "f1", "f ", " f", "\u00e4", "f\n", b"f", ["f"], ("f",), "main"]:
            self.no_head((bad,) + F[1:], "name", -1)
        self.no_calls(8, [("", None, None, None)], (0, "name", -1))
        self.no_calls(8, [MAIN, F, F], (2, "name", -1))

    def test_parameters(self):
        for bad in no_sequences() + [["n"], "n", ("a", "b", "c", "d")]:
            if bad != ():
                self.no_head(("f", bad) + F[2:], "parameters", -1)
                self.no_calls(8, [("f", bad) + F[2:]], (0, "parameters", -1))
        self.no_calls(8, [("f", ("n",), ("r",), F[3])], (0, "parameters", -1))
        self.no_calls(8, [("f", (None,), None, None)], (0, "parameters", -1))
        for bad in no_sequences()[:-3] + ["", "N", "abcdefghi", 0, ("n",)]:
            self.no_head(("f", (bad,)) + F[2:], "parameters", 0)
            self.no_head(("f", ("n", bad, None), None, None), "parameters", 1)
        self.no_head(("f", ("n", "m", "n"), None, None), "parameters", 2)

    def test_variables(self):
        for bad in no_sequences() + [["r"], "r"]:
            if bad != ():
                self.no_head(("f", ("n",), bad, None), "variables", -1)
        self.no_calls(8, [("f", (), (), F[3])], (0, "variables", -1))
        self.no_head(("f", (), (), None), "variables", -1)
        self.no_head(("f", (), ("a", "b", "c", "d", "e"), None), "variables", -1)
        self.no_head(("f", ("a", "b"), ("c", "d", "e"), None), "variables", -1)
        self.no_head(("f", ("a", "b"), (None,) * 3, None), "variables", -1)
        for bad in no_sequences()[:-3] + ["", "R", "abcdefghi", 0, ("r",)]:
            self.no_head(("f", ("n",), (bad,), None), "variables", 0)
            self.no_head(("f", ("n",), ("r", bad, None), None), "variables", 1)
        self.no_head(("f", ("n",), ("n",), None), "variables", 0)
        self.no_head(("f", ("n",), ("r", "s", "r"), None), "variables", 2)

    def test_rows(self):
        for bad in no_sequences() + [(), list(F[3]), F[3] * 3 + F[3][:1]]:
            self.no_calls(8, [MAIN, F[:3] + (bad,)], (1, "rows", -1))
        self.no_calls(8, [MAIN[:3] + (None,), F[:3] + (None,)], (0, "rows", -1))
        for bad in no_sequences() + [(), ("stop",), ("return",), ("look",), ["look", 0], ("go", 0), "look"]:
            self.no_row(bad)
            self.no_row(bad, F[3])

    def test_rows_as_in_programs(self):
        for bad in [("set", "x", (0, 1, 0), 0), ("set", "n", (0, 1), 0), ("set", "n", [0, 1, 0], 0),
                    ("set", "n", (0, 1, 0), 2), ("set", "n", (0, 1, 0), -1), ("set", "n", (0, True, 0), 0),
                    ("ask", "x", 0), ("ask", "n", 2), ("ask", "n", True), ("say", (0, 1), 0), ("say", (0, 1, 1), 2),
                    ("say", (0, 1, None), 0), ("look", 2), ("look", "0"), ("choose", ()), ("choose", (0,) * 7),
                    ("choose", [0]), ("choose", (2,)), ("stop", 0), ("look", 0, 0)]:
            self.no_row(bad)

    def test_returns(self):
        for bad in no_sequences() + [(), (0,), (0, 1), (0, 1, 1, 1), [0, 1, 1], (0, 1, True), (0, None, 1)]:
            self.no_row(("return", bad))
        self.no_row(("return", (0, 1, 1), 0))

    def test_calls(self):
        good = ("call", "r", "f", ((1, 1, 0),), 0)
        Calls(8, [MAIN, F[:3] + ((good,),)])
        for at, bads in [(1, no_sequences() + ["x", "f", 0]), (2, no_sequences() + ["g", "F", 1, "x"]),
                         (3, no_sequences() + [(), ((1, 1, 0),) * 2, [(1, 1, 0)], ([1, 1, 0],), ((1, 1),), (None,),
                                               ((1, 1, True),), ((1, 1, 0, 0),), (1, 1, 0)]),
                         (4, no_integers() + [-1, 2, 10 ** 30])]:
            for bad in bads:
                self.no_row(good[:at] + (bad,) + good[at + 1:])
        self.no_row(good[:4])
        self.no_row(good + (0,))
        self.no_row(("call", "r", "main", ((1, 1, 0),), 0))
        Calls(8, [MAIN, F[:3] + ((("call", "n", "main", (), 0),),)])

    def test_a_later_function_may_be_called(self):
        later = ("g", (), ("x",), (("call", "x", "f", ((0, 0),), 0),))
        self.assertEqual(len(Calls(8, [later, F]).functions), 2)
        self.no_calls(8, [later, ("f", (), ("r",), (("look", 0),))], (0, "rows", 0))
        self.no_calls(8, [later, ("f", (), ("r",), (("look", 1),))], (0, "rows", 0))


class Running(unittest.TestCase):
    def test_examples(self):
        self.assertEqual(run_function(climbing(), 1, [5], (0, 0)), ([], 5, []))
        self.assertEqual(run_function(climbing(), 1, [5], (1, 0, 0, 0, 0)), ([], 12, []))
        self.assertEqual(run_function(climbing(), 0, (), (7, 0, 0, 0, 0)), ([(0, 0, (7,))], None, [7]))
        self.assertEqual(run_function(climbing(), 0, (), (7, 0, 1, 0, 1)),
                         ([(0, 1, (7,)), (1, 2, (7, 0)), (1, 2, (8, 0))], None, []))

    def test_kinds(self):
        stack, result, said = run_function(climbing(), 1, [300], [1, 0])
        self.assertEqual((stack, result, said), ([(1, 2, (44, 0)), (1, 0, (45, 0))], None, []))
        self.assertEqual([type(item) for item in (stack, stack[0], stack[0][2], said)], [list, tuple, tuple, list])
        self.assertIs(type(run_function(climbing(), 1, [300], [1, 0])), tuple)

    def test_beside_a_slow_machine(self):
        ended = 0
        for seed in range(400):
            program = brute_calls.random_calls(seed, random.Random(seed).choice([1, 2, 8, 64]))
            for function, (_, parameters, _, _) in enumerate(program.functions):
                values = [random.Random(seed + at).randrange(-9, 9) for at in range(len(parameters))]
                numbers, done = brute_calls.some_run(program, function, seed)
                for many in {0, len(numbers) // 2, len(numbers)}:
                    found = run_function(program, function, values, numbers[:many])
                    self.assertEqual(found, brute_calls.machine(program, function, values, numbers[:many]))
                self.assertEqual(done, found[0] == [] if many == len(numbers) else done)
                ended += done
        self.assertGreater(ended, 200)

    def test_variables_are_not_shared(self):
        rows = (("set", "x", (7, 0, 0), 1), ("call", "y", "g", (), 2), ("say", (0, 1, 1), 3), ("return", (0, 0, 0)))
        inner = (("say", (0, 1, 0), 1), ("set", "x", (9, 0, 0), 2), ("return", (5, 0, 0)))
        program = Calls(8, [("f", (), ("x", "y"), rows), ("g", (), ("x", "y"), inner)])
        self.assertEqual(run_function(program, 0, [], [0] * 6), ([(0, 3, (7, 5))], None, [0, 12]))
        self.assertEqual(run_function(program, 0, [], [0] * 7), ([], 0, [0, 12]))

    def test_a_result_for_a_variable_that_is_handed_over(self):
        rows = (("call", "n", "f", ((0, 0, 1), (0, 1, 0)), 1), ("return", (0, 1, 2)))
        program = Calls(8, [MAIN[:3] + ((("look", 0),),), ("f", ("n", "m"), (), rows)])
        self.assertEqual(run_function(program, 1, [3, 4], [0, 0, 0])[0],
                         [(1, 0, (3, 4)), (1, 0, (4, 3)), (1, 0, (3, 4)), (1, 0, (4, 3))])

    def test_thousands_of_calls(self):
        many = 5000
        program = Calls(64, climbing().functions)
        stack, result, said = run_function(program, 1, [1], [1, 0] * many)
        self.assertEqual((len(stack), stack[-1], result, said), (many + 1, (1, 0, (many + 1, 0)), None, []))
        found = run_function(program, 1, [1], [1, 0] * many + [0, 0] + [0] * many)
        self.assertEqual(found, ([], (many + 1) * 2 ** many % 2 ** 64, []))

    def test_no_function(self):
        for bad in no_integers() + [-1, 2, 10 ** 30]:
            with self.assertRaises(NoFunction) as caught:
                run_function(climbing(), bad, None, None)
            self.assertIs(caught.exception.function, bad)

    def no_state(self, values, index):
        with self.assertRaises(NoState) as caught:
            run_function(climbing(), 1, values, None)
        self.assertEqual(caught.exception.index, index)

    def test_no_state(self):
        for bad in no_sequences() + [[], (), [0, 0], (0, 0), "a"]:
            self.no_state(bad, -1)
        for bad in no_integers():
            self.no_state([bad], 0)
        three = Calls(8, [MAIN[:3] + ((("look", 0),),), ("f", ("a", "b", "c"), (), (("look", 0),))])
        with self.assertRaises(NoState) as caught:
            run_function(three, 1, (1, None, True), [])
        self.assertEqual(caught.exception.index, 1)

    def no_run(self, numbers, index, function=0, values=()):
        with self.assertRaises(NoRun) as caught:
            run_function(climbing(), function, values, numbers)
        self.assertEqual(caught.exception.index, index)

    def test_no_run(self):
        for bad in no_sequences():
            self.no_run(bad, -1)
        for bad in no_integers():
            self.no_run([bad], 0)
            self.no_run([5, bad], 1)
            self.no_run([5, 0, bad], 2)
            self.no_run([5, 0, 0, bad], 3)
        for numbers in ([5, 1], [5, 256], [5, 0, 2], [5, 0, -1], [5, 0, 0, 1], [5, 0, 0, 0, 8], [5, 0, 1, 1]):
            self.no_run(numbers, len(numbers) - 1)
            self.no_run(tuple(numbers) + (None,), len(numbers) - 1)

    def test_no_row_is_left_behind_the_return(self):
        self.no_run([0, 0, 0], 2, 1, [4])
        self.no_run([0, 0, None], 2, 1, [4])
        self.no_run([1, 0, 0, 0, 0, 0], 5, 1, [4])

    def test_names_lists_and_tuples(self):
        wished = ([], 12, [])
        self.assertEqual(run_function(numbers=[1, 0, 0, 0, 0], values=(5,), function=1, program=climbing()), wished)
        self.assertEqual(run_function(climbing(), 1, [5 + 2 ** 70], (1, 0, 0, 0, 0)), wished)

    def test_arguments_stay_and_lists_are_new(self):
        program, values, numbers = climbing(), [5], [1, 0]
        first = run_function(program, 1, values, numbers)
        first[0].clear()
        first[2].append(1)
        self.assertEqual((values, numbers, program), ([5], [1, 0], climbing()))
        self.assertEqual(run_function(program, 1, values, numbers), ([(1, 2, (5, 0)), (1, 0, (6, 0))], None, []))


if __name__ == "__main__":
    unittest.main()
