"""Runs and ways on: points 2, 3, 5, 8 and 9."""

import itertools
import unittest

from leastkeep.errors import NoRow, NoRun, NoState
from leastkeep.programs import Program
from leastkeep.runs import go_on, run
from tests.samples import double, no_integers, no_sequences, random_program, shifts
from tests import brute


class Runs(unittest.TestCase):
    def no_run(self, index, program, numbers, row=None, state=None):
        with self.assertRaises(NoRun) as caught:
            if row is None:
                run(program, numbers)
            else:
                go_on(program, row, state, numbers)
        self.assertEqual(caught.exception.index, index)

    def test_examples(self):
        self.assertEqual(run(double(), [5, 0, 0, 0]), (2, (5, 8), [13]))
        self.assertEqual(go_on(double(), 3, [1, 300], [0]), (2, (1, 44), [45]))

    def test_by_name(self):
        self.assertEqual(run(numbers=(5, 0), program=double()), (2, (5, 8), []))
        self.assertEqual(go_on(numbers=(), state=(1, 2), row=3, program=double()), (3, (1, 2), []))

    def test_no_rows(self):
        self.assertEqual(run(double(), []), (0, (0, 0), []))
        self.assertEqual(run(double(), ()), (0, (0, 0), []))
        self.assertEqual(go_on(double(), 4, [-1, 256], []), (4, (255, 0), []))

    def test_kinds_are_the_same(self):
        one = run(double(), [5, 0, 0, 0])
        self.assertEqual(one, run(double(), (5, 0, 0, 0)))
        self.assertEqual([type(part) for part in one], [int, tuple, list])
        self.assertEqual(go_on(double(), 2, [1, 2], (0, 0)), go_on(double(), 2, (1, 2), [0, 0]))

    def test_each_kind_of_row(self):
        rows = [("ask", "x", 1), ("look", 2), ("set", "y", (1, 2, 3), 3), ("say", (10, 1, 1), 4),
                ("choose", (5, 1, 0, 5)), ("stop",)]
        program = Program(4, ["x", "y"], rows)
        self.assertEqual(run(program, [3, 0, 0, 0, 1, 0, 0, 0, 3]),
                         (5, (3, 12), [3, 0, 4, 3, 7, 9]))
        self.assertEqual(run(program, [3, 0, 0, 0, 2, 7, 0]), (2, (7, 7), [3, 0, 4, 7, 7]))

    def test_a_set_reads_the_old_values(self):
        program = Program(8, ["x", "y"], [("set", "x", (1, 2, 1), 1), ("set", "y", (0, 1, 1), 0)])
        self.assertEqual(run(program, [0] * 4)[1], (4, 5))

    def test_numbers_of_any_size(self):
        for number in (-1, 255, 256, 10 ** 40, -10 ** 40, 2 ** 64 + 1):
            low = number % 256
            self.assertEqual(run(double(), [number, 0, 0, 0]), (2, (low, (low + 3) % 256), [(2 * low + 3) % 256]))
            self.assertEqual(go_on(double(), 3, [number, number], [0]), (2, (low, low), [2 * low % 256]))

    def test_widths(self):
        for width in (1, 2, 63, 64):
            program = Program(width, ["x"], [("ask", "x", 1), ("set", "x", (1, 1), 2), ("say", (0, 3), 0)])
            modulus = 2 ** width
            for number in (0, 1, modulus - 1, modulus, -5):
                new = (number + 1) % modulus
                self.assertEqual(run(program, [number, 0, 0]), (0, (new,), [3 * new % modulus]))

    def test_six_variables_in_a_loop(self):
        once_round = [0] * 6 + [0]
        for many in range(9):
            row, state, said = run(shifts(), once_round * many)
            self.assertEqual((row, said), (0, []))
            self.assertEqual(state, tuple([1] * min(many, 6) + [0] * (6 - min(many, 6))))

    def test_labels_at_the_bounds(self):
        program = Program(1, ["x"], [("choose", (1, 2, 3, 4, 5, 0))] + [("stop",)] * 5)
        for label in range(6):
            self.assertEqual(run(program, [label])[0], (label + 1) % 6)
        for label in no_integers() + [-1, 6, 10 ** 20]:
            self.no_run(0, program, [label])
            self.no_run(2, program, [5, 5, label])

    def test_zero_itself(self):
        for value in no_integers() + [1, -1, 256, 2 ** 64]:
            for row, index in ((1, 0), (3, 0)):
                self.no_run(index, double(), [value], row, (0, 0))
            self.no_run(1, double(), [7, value])
        look = Program(8, ["x"], [("look", 0)])
        for value in no_integers() + [256, 1]:
            self.no_run(2, look, [0, 0, value])

    def test_asked_numbers_are_integers(self):
        for value in no_integers():
            self.no_run(0, double(), [value, 0])

    def test_no_row_is_left(self):
        stop = Program(8, ["x"], [("stop",)])
        self.assertEqual(run(stop, []), (0, (0,), []))
        for value in [0, None, 1, "x"]:
            self.no_run(0, stop, [value])
            self.no_run(3, double(), [1, 0, 1, value, "x"])

    def test_no_list(self):
        for value in no_sequences():
            self.no_run(-1, double(), value)
            self.no_run(-1, double(), value, 1, [0, 0])

    def test_the_first_wrong_item(self):
        self.no_run(2, double(), [1, 0, 2, None])
        self.no_run(1, double(), [1, True, 2])
        self.no_run(0, double(), ["x", True, 2])

    def test_wrong_rows(self):
        for value in no_integers() + [-1, 5, 10 ** 30]:
            with self.assertRaises(NoRow) as caught:
                go_on(double(), value, None, None)
            self.assertIs(caught.exception.row, value)

    def test_wrong_states(self):
        cases = [(value, -1) for value in no_sequences() + [[], (1,), [1, 2, 3], ("x",)]]
        cases += [((value, value), 0) for value in no_integers()]
        cases += [([7, value], 1) for value in no_integers()]
        for state, index in cases:
            with self.assertRaises(NoState) as caught:
                go_on(double(), 0, state, None)
            self.assertEqual(caught.exception.index, index)

    def test_arguments_stay_as_they_are(self):
        numbers, state = [300, 0], [300, -1]
        run(double(), numbers)
        go_on(double(), 0, state, numbers)
        self.assertEqual((numbers, state), ([300, 0], [300, -1]))

    def test_returned_lists_are_new(self):
        run(double(), [5, 0, 0, 0])[2].append(9)
        self.assertEqual(run(double(), [5, 0, 0, 0])[2], [13])

    def test_ways_on_from_each_row_of_a_run(self):
        numbers = [77, 0, 0, 0, 0, 0, 1]
        row, state, told = run(double(), numbers)
        for at in range(len(numbers) + 1):
            middle, between, said = run(double(), numbers[:at])
            self.assertEqual(go_on(double(), middle, between, numbers[at:]), (row, state, told[len(said):]))

    def test_against_rows_done_one_by_one(self):
        for seed in range(60):
            program = random_program(seed)
            for row, state in itertools.product(range(len(program)), [(1,) * len(program.variables)]):
                self.walk(program, row, state, 3)

    def walk(self, program, row, state, many):
        exits, said = brute.step(program, row, state)
        for number, to, other in exits:
            self.assertEqual(go_on(program, row, state, [number]), (to, other, said))
            if many:
                self.walk(program, to, other, many - 1)
        for number in (-1, len(exits)):
            if program[row][0] != "ask":
                self.no_run(0, program, [number], row, state)


if __name__ == "__main__":
    unittest.main()
