"""Hulls: points 2, 3 and 18 to 22."""

import itertools
import unittest

from leastkeep.errors import NoForm, NoRow
from leastkeep.hulls import all_hulls, hull, is_spanning, nonzero, relations, spanning_runs
from leastkeep.modules import count, echelon, generators, is_in
from leastkeep.programs import Program
from leastkeep.runs import run
from tests import brute
from tests.samples import double, no_integers, no_sequences, odd_values, random_program, shifts


def value(form, state, width):
    return brute.value_of(form, state, width)


def unreached():
    return Program(4, ["x", "y"], [("look", 2), ("ask", "x", 0), ("stop",)])


class Hulls(unittest.TestCase):
    def test_examples(self):
        self.assertEqual(hull(double(), 2), ((0, 3), [(1, 1)]))
        self.assertEqual(hull(double(), 0), ((0, 0), []))
        self.assertEqual(relations(double(), 2), [(1, 171, 85)])
        found = nonzero(double(), 2, (3, 1, 254))
        self.assertEqual((type(found), len(found), run(double(), found)[0]), (tuple, 2, 2))
        self.assertTrue(is_spanning(double(), 2, [(0, 0), (1, 0)]))
        self.assertEqual(len(spanning_runs(double(), 2)), 2)

    def test_by_name(self):
        self.assertEqual(hull(row=2, program=double()), ((0, 3), [(1, 1)]))
        self.assertEqual(all_hulls(program=double())[0], ((0, 0), []))
        self.assertEqual(relations(row=2, program=double()), [(1, 171, 85)])
        self.assertIsNone(nonzero(form=(3, 1, 255), row=2, program=double()))
        self.assertTrue(is_spanning(runs=spanning_runs(row=2, program=double()), row=2, program=double()))

    def test_hulls_of_small_programs(self):
        for seed in range(150):
            program = random_program(seed)
            found = all_hulls(program)
            self.assertEqual(found, [hull(program, row) for row in range(len(program))])
            for row, states in enumerate(brute.lengths(program)):
                self.check_hull(program, found[row], states)

    def check_hull(self, program, found, states):
        width, size = program.width, len(program.variables)
        if not states:
            self.assertIsNone(found)
            return
        base, module = found
        self.assertEqual((type(found), type(base), type(module)), (tuple, tuple, list))
        everything = brute.hull_of(width, states)
        modulus = 2 ** width
        self.assertEqual({tuple((a + b) % modulus for a, b in zip(base, item))
                          for item in brute.module_of(width, size, module)}, everything)
        self.assertEqual(module, echelon(width, size, module))
        self.assertIn(base, everything)
        for item in module:
            column = next(at for at, number in enumerate(item) if number)
            self.assertLess(base[column], item[column])

    def test_relations_of_small_programs(self):
        for seed in range(100):
            program = random_program(seed)
            width, size = program.width, len(program.variables)
            for row, states in enumerate(brute.lengths(program)):
                every = {form for form in brute.all_forms(width, size)
                         if all(value(form, state, width) == 0 for state in states)}
                found = relations(program, row)
                self.assertEqual(brute.module_of(width, size + 1, found), every)
                self.assertEqual(found, echelon(width, size + 1, found))

    def test_a_state_is_in_the_hull_if_all_relations_are_0(self):
        for seed in range(60):
            program = random_program(seed)
            width, size = program.width, len(program.variables)
            for row, states in enumerate(brute.lengths(program)):
                forms = relations(program, row)
                everything = brute.hull_of(width, states) if states else set()
                for state in itertools.product(range(2 ** width), repeat=size):
                    self.assertEqual(all(value(form, state, width) == 0 for form in forms), state in everything)

    def test_nonzero_of_small_programs(self):
        for seed in range(80):
            program = random_program(seed, size=1 + seed % 2)
            width, size = program.width, len(program.variables)
            for row, states in enumerate(brute.lengths(program)):
                for form in brute.all_forms(width, size)[::1 + seed % 3]:
                    lengths = [length for state, length in states.items() if value(form, state, width)]
                    self.check_nonzero(program, row, form, min(lengths) if lengths else None)

    def check_nonzero(self, program, row, form, length):
        found = nonzero(program, row, form)
        if length is None:
            self.assertIsNone(found)
            return
        self.assertEqual((type(found), len(found)), (tuple, length))
        spot, state, _ = run(program, found)
        self.assertEqual(spot, row)
        self.assertNotEqual(value(form, state, program.width), 0)

    def test_spanning_runs_of_small_programs(self):
        for seed in range(150):
            program = random_program(seed)
            width, size = program.width, len(program.variables)
            for row, states in enumerate(brute.lengths(program)):
                found = spanning_runs(program, row)
                self.assertIs(type(found), list)
                self.assertTrue(all(type(numbers) is tuple for numbers in found))
                self.assertTrue(is_spanning(program, row, found))
                if not states:
                    self.assertEqual(found, [])
                    continue
                reached = [run(program, numbers) for numbers in found]
                self.assertEqual({spot for spot, _, _ in reached}, {row})
                self.assertEqual(brute.hull_of(width, [state for _, state, _ in reached]),
                                 brute.hull_of(width, states))
                first = next(iter(states))
                module = brute.module_of(width, size, [tuple(a - b for a, b in zip(state, first))
                                                       for state in states])
                self.assertEqual(len(found), 1 + brute.least_generators(width, size, module))

    def test_wide_programs_with_loops(self):
        for seed in range(12):
            program = random_program(seed, width=64, size=6, many=25)
            for row, found in enumerate(all_hulls(program)):
                if found is None:
                    self.assertEqual((spanning_runs(program, row), len(relations(program, row))), ([], 7))
                    continue
                runs = spanning_runs(program, row)
                self.assertTrue(is_spanning(program, row, runs))
                self.assertFalse(is_spanning(program, row, runs[1:]))
                self.assertEqual(len(runs), 1 + generators(64, 6, found[1]))
                self.assertEqual(count(64, 7, relations(program, row)) * count(64, 6, found[1]), 2 ** (64 * 6))
                for form in relations(program, row):
                    self.assertEqual([value(form, run(program, numbers)[1], 64) for numbers in runs], [0] * len(runs))
                    self.assertIsNone(nonzero(program, row, form))
                    self.check_off(program, row, (form[0] + 1,) + form[1:])

    def check_off(self, program, row, form):
        found = nonzero(program, row, form)
        spot, state, _ = run(program, found)
        self.assertEqual(spot, row)
        self.assertNotEqual(value(form, state, program.width), 0)

    def test_states_of_wide_runs_are_in_the_hull(self):
        names = ["x", "y", "z"]
        rows = [("ask", "x", 1), ("set", "y", (5, 3, 1, 0), 2), ("set", "z", (0, 1, 2, 2 ** 40), 3),
                ("choose", (0, 1, 4)), ("look", 4)]
        program = Program(64, names, rows)
        base, module = hull(program, 3)
        for numbers in ([7, 0, 0], [9, 0, 0, 0, 2 ** 50, 0, 0], [1, 0, 0, 1, 0, 0, 1, 0, 0], [-1, 0, 0, 1, 0, 0]):
            row, state, _ = run(program, numbers)
            self.assertEqual(row, 3)
            self.assertTrue(is_in(64, 3, module, [a - b for a, b in zip(state, base)]))

    def test_a_long_way_to_a_row(self):
        program = shifts()
        for place in range(6):
            form = tuple(1 if at == place + 1 else 0 for at in range(7))
            self.check_nonzero(program, 0, form, 7 * (place + 1))
            self.check_nonzero(program, 7, form, 7 * (place + 1))
        self.check_nonzero(program, 8, (0, 0, 0, 0, 0, 0, 2 ** 63), 43)
        self.assertEqual(generators(64, 6, hull(program, 0)[1]), 6)
        chain = Program(1, ["x"], [("set", "x", (0, 1), at + 1) for at in range(23)] + [("ask", "x", 24), ("stop",)])
        self.check_nonzero(chain, 24, (0, 1), 24)

    def test_a_long_way_around(self):
        rows = [("set", "x", (1, 1), 1), ("choose", (0, 2)), ("stop",)]
        program = Program(64, ["x"], rows)
        self.check_nonzero(program, 2, (-1, 1), 4)
        self.check_nonzero(program, 2, (-2, 2), 4)
        self.check_nonzero(program, 2, (1, 2), 2)

    def test_a_row_that_no_run_reaches(self):
        program = unreached()
        self.assertIsNone(hull(program, 1))
        self.assertIsNone(all_hulls(program)[1])
        self.assertEqual(relations(program, 1), [(1, 0, 0), (0, 1, 0), (0, 0, 1)])
        self.assertIsNone(nonzero(program, 1, (1, 2, 3)))
        self.assertEqual(spanning_runs(program, 1), [])
        self.assertIs(is_spanning(program, 1, []), True)
        for runs in ([()], [(0,)], [[0, 0]], (), None, [[]]):
            self.assertIs(is_spanning(program, 1, runs), False)

    def test_row_0_and_the_run_of_no_rows(self):
        for program in (double(), unreached(), shifts()):
            size = len(program.variables)
            self.assertEqual(nonzero(program, 0, (1,) + (0,) * size), ())
            self.assertIs(is_spanning(program, 0, []), False)
        self.assertEqual(spanning_runs(double(), 0), [()])
        self.assertIs(is_spanning(double(), 0, [()]), True)
        self.assertIs(is_spanning(double(), 0, [[], ()]), True)
        loop = Program(8, ["x"], [("ask", "x", 0)])
        self.assertEqual(hull(loop, 0), ((0,), [(1,)]))
        self.assertEqual(nonzero(loop, 0, (0, 128)), (1,))
        self.assertEqual(len(spanning_runs(loop, 0)), 2)

    def test_forms_that_are_0_always(self):
        for row in range(5):
            self.assertIsNone(nonzero(double(), row, (0, 0, 0)))
            self.assertIsNone(nonzero(double(), row, [256, -512, 2 ** 70]))

    def test_a_doubled_number(self):
        rows = [("ask", "x", 1), ("set", "x", (0, 2 ** 63, 0), 2), ("set", "y", (1, 2, 0), 3), ("stop",)]
        program = Program(64, ["x", "y"], rows)
        self.assertEqual(hull(program, 2), ((0, 0), [(2 ** 63, 0)]))
        self.assertEqual(hull(program, 3), ((0, 1), [(2 ** 63, 0)]))
        self.assertIsNone(nonzero(program, 3, (0, 2, 0)))
        self.assertIsNone(nonzero(program, 3, (-1, 0, 1)))
        self.check_nonzero(program, 3, (0, 1, 0), 3)
        self.assertEqual(relations(program, 3), [(1, 0, 2 ** 64 - 1), (0, 2, 0)])

    def test_a_base_is_smaller_than_the_pivots(self):
        rows = [("choose", (1, 2)), ("set", "x", (7, 0, 0), 3), ("set", "x", (5, 0, 0), 4),
                ("set", "y", (1, 0, 0), 5), ("set", "y", (3, 0, 0), 5), ("stop",)]
        self.assertEqual(hull(Program(3, ["x", "y"], rows), 5), ((1, 7), [(2, 6)]))
        rows[0] = ("choose", (2, 1))
        self.assertEqual(hull(Program(3, ["x", "y"], rows), 5), ((1, 7), [(2, 6)]))


class Spanning(unittest.TestCase):
    def test_however_many(self):
        for runs in ([(0, 0), (1, 0)], [[0, 0], (1, 0)], [(5, 0), (6, 0, 0, 0)], [(9, 0), (9, 0), (12, 0), (7, 0)],
                     [(1, 0)] * 3 + [(258, 0)]):
            self.assertIs(is_spanning(double(), 2, runs), True)

    def test_too_little(self):
        for runs in ([], [(0, 0)], [(0, 0), (2, 0)], [(1, 0), (1, 0)], [(0, 0), (256, 0)], [(0, 0), (1, 0, 0)],
                     [(0, 0), (1,)], [(0, 0), (1, 0), ()]):
            self.assertIs(is_spanning(double(), 2, runs), False)

    def test_no_runs(self):
        for bad in no_sequences() + [(True, 0), ("0", 0), (0, 1), (0, 0, 2), (0, 0, 1, 0), [(0, 0)]]:
            self.assertIs(is_spanning(double(), 2, [(0, 0), (1, 0), bad]), False)

    def test_values_of_any_kind(self):
        for bad in no_sequences() + [((0, 0), (1, 0)), (), [0, 0], {(0, 0): 1}, {(0, 0), (1, 0)}]:
            self.assertIs(is_spanning(double(), 2, bad), False)


class Arguments(unittest.TestCase):
    def test_no_row(self):
        for bad in no_integers() + [-1, 5, 10 ** 30]:
            for asked, more in ((hull, ()), (relations, ()), (nonzero, (None,)), (spanning_runs, ()),
                                (is_spanning, (None,))):
                with self.assertRaises(NoRow) as caught:
                    asked(double(), bad, *more)
                self.assertIs(caught.exception.row, bad)

    def test_no_form(self):
        cases = [(bad, -1) for bad in no_sequences() + [(), (1, 2), [1, 2, 3, 4], (None,)]]
        cases += [((bad, 1, bad), 0) for bad in no_integers()] + [([1, 2, bad], 2) for bad in no_integers()]
        for form, index in cases:
            for row in (1, 2):
                with self.assertRaises(NoForm) as caught:
                    nonzero(double(), row, form)
                self.assertEqual(caught.exception.index, index)
        with self.assertRaises(NoForm):
            nonzero(unreached(), 1, (0, 0))

    def test_lists_and_tuples_and_big_numbers(self):
        for form in ([3, 1, 254], (3 - 256, 257, -2)):
            self.assertEqual(nonzero(double(), 2, form), nonzero(double(), 2, (3, 1, 254)))

    def test_arguments_stay_and_lists_are_new(self):
        form, runs = [3, 257, -2], [[0, 0], [1, 0]]
        nonzero(double(), 2, form)
        is_spanning(double(), 2, runs)
        self.assertEqual((form, runs), ([3, 257, -2], [[0, 0], [1, 0]]))
        program = double()
        for asked in (relations, spanning_runs):
            first = asked(program, 2)
            first.append(1)
            self.assertEqual(asked(program, 2), first[:-1])
        hull(program, 2)[1].append(1)
        all_hulls(program)[2][1].append(1)
        all_hulls(program).append(1)
        self.assertEqual(hull(program, 2), ((0, 3), [(1, 1)]))
        self.assertEqual(len(all_hulls(program)), 5)

    def test_odd_values_are_asked_for_as_spanning(self):
        self.assertEqual({is_spanning(double(), 2, bad) for bad in odd_values()}, {False})


if __name__ == "__main__":
    unittest.main()
