"""The least code: points 2 and 46, and the promises LEAST and TAKEOVER."""

import itertools
import random
import unittest

from leastkeep.behaviours import least_numbers
from leastkeep.codes import Code, run_code
from leastkeep.compiling import compiled
from leastkeep.judging import judge
from leastkeep.programs import Program, graph_of
from leastkeep.recipes import takeover
from leastkeep.runs import run
from tests import brute
from tests.samples import dense_program, double, once, random_program, shifts


def runs_of(program, length, asked):
    """All runs of at most some length on which only some numbers are asked."""
    graph = graph_of(program)
    layer = [((), 0)]
    for _ in range(length + 1):
        ahead = []
        for numbers, row in layer:
            yield numbers
            kind, nexts = graph[row]
            exits = [(number, nexts[0]) for number in asked] if kind == "ask" else enumerate(nexts)
            ahead += [(numbers + (number,), to) for number, to in exits]
        layer = ahead


class Compiled(unittest.TestCase):
    def check_code(self, program):
        code = compiled(program)
        self.assertIs(type(code), Code)
        self.assertEqual(list(code.counts), least_numbers(program))
        self.assertIsNone(judge(program, code))
        for row in range(len(program)):
            self.assertIsNotNone(takeover(program, code, row))
        return code

    def test_examples(self):
        self.assertEqual(compiled(double()).counts, (0, 1, 1, 1, 0))
        self.assertIsNone(judge(double(), compiled(program=double())))
        self.assertIsNotNone(takeover(once(), compiled(once()), 1))

    def test_small_programs(self):
        for seed in range(200):
            program = random_program(seed)
            code = self.check_code(program)
            for row, states in enumerate(brute.lengths(program)):
                self.assertEqual(code.counts[row], brute.least_for(program, row, states))

    def test_small_codes_on_all_runs(self):
        for seed in range(80):
            program = random_program(seed, size=1 + seed % 2)
            self.assertIsNone(brute.least_run_apart(program, compiled(program)))

    def test_they_say_the_same_on_short_runs(self):
        for seed in range(40):
            program = random_program(seed)
            code = compiled(program)
            for numbers in itertools.islice(runs_of(program, 6, (0, 1, 2, -3)), 300):
                row, _, said = run(program, numbers)
                spot, registers, told = run_code(code, numbers)
                self.assertEqual((spot, told, len(registers)), (row, said, code.counts[row]))

    def test_wide_programs_with_loops(self):
        for seed in range(12):
            self.check_code(random_program(seed, 64, 6, 25))
        for program in (dense_program(), dense_program(1), dense_program(33), shifts()):
            self.check_code(program)

    def test_long_wide_runs(self):
        rng = random.Random(9)
        program = dense_program()
        code = compiled(program)
        for _ in range(20):
            numbers, row = [], 0
            for _ in range(200):
                kind, nexts = graph_of(program)[row]
                numbers.append(rng.getrandbits(70) - 2 ** 69 if kind == "ask" else rng.randrange(len(nexts)))
                row = nexts[numbers[-1]] if kind == "choose" else nexts[0]
            self.assertEqual(run(program, numbers)[2], run_code(code, numbers)[2])

    def test_rows_that_no_run_reaches(self):
        rows = [("ask", "x", 3), ("ask", "y", 2), ("choose", (1, 3, 2)), ("look", 4), ("stop",), ("say", (1, 1, 1), 3),
                ("look", 5), ("set", "y", (1, 2, 3), 0)]
        program = Program(8, ["x", "y"], rows)
        code = self.check_code(program)
        self.assertEqual(code.counts, (0, 0, 0, 1, 0, 0, 0, 0))
        self.assertEqual([len(item[2]) for item in code.rows], [0, 0, 0, 2, 0, 1, 2, 0])
        self.check_code(Program(8, ["x"], [("stop",), ("ask", "x", 2), ("look", 1)]))

    def test_registers_that_nobody_reads_are_not_kept(self):
        rows = [("ask", "x", 1), ("ask", "y", 2), ("choose", (3, 4)), ("set", "x", (0, 0, 1), 3), ("say", (1, 2, 0), 4)]
        self.assertEqual(self.check_code(Program(8, ["x", "y"], rows)).counts, (0, 1, 1, 0, 1))

    def test_a_halved_number(self):
        rows = [("ask", "x", 1), ("set", "x", (3, 2), 2), ("choose", (3, 4)), ("say", (0, 2 ** 62), 2), ("say", (0, 2), 4)]
        self.assertEqual(self.check_code(Program(64, ["x"], rows)).counts, (0, 1, 1, 1, 1))
        rows = [("ask", "x", 1), ("set", "x", (3, 2), 2), ("say", (0, 2 ** 63), 2)]
        self.assertEqual(self.check_code(Program(64, ["x"], rows)).counts, (0, 0, 0))

    def test_row_0_in_a_loop(self):
        loop = Program(8, ["x", "y"], [("say", (7, 1, 4), 1), ("ask", "x", 2), ("set", "y", (1, 2, 0), 0)])
        self.assertEqual(self.check_code(loop).counts, (1, 0, 1))
        self.assertEqual(self.check_code(Program(8, ["x"], [("look", 1), ("ask", "x", 0)])).counts, (1, 0))
        start = Program(8, ["x"], [("choose", (1, 2)), ("set", "x", (5, 1), 0), ("look", 2)])
        self.assertEqual(run_code(self.check_code(start), (0, 0, 0, 0, 1, 0))[2], [10])

    def test_equal_programs_have_equal_codes(self):
        for seed in range(10):
            program = random_program(seed)
            other = Program(program.width, list(program.variables), list(program.rows))
            self.assertEqual(compiled(program), compiled(other))


if __name__ == "__main__":
    unittest.main()
