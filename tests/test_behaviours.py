"""The least numbers and papers: points 2, 3 and 33 to 35, and the promises LEAST and PAPERS."""

import random
import unittest

from leastkeep.behaviours import least, least_numbers, paper, shown, table
from leastkeep.codes import Code, run_code
from leastkeep.errors import NoPaper, NoRow
from leastkeep.modules import smith
from leastkeep.programs import Program
from leastkeep.runs import go_on, run
from tests import brute
from tests.samples import (dense_program, double, no_integers, no_sequences, odd_values, once, random_program, shifts,
                           twice)


def unreached():
    """Row 1 is reached by no run; row 0 is."""
    return Program(4, ["x", "y"], [("look", 2), ("ask", "x", 3), ("stop",), ("look", 2)])


class Least(unittest.TestCase):
    def test_examples(self):
        self.assertEqual(least_numbers(double()), [0, 1, 1, 1, 0])
        self.assertEqual([least(double(), row) for row in range(5)], [0, 1, 1, 1, 0])
        half = Program(4, ["x"], [("ask", "x", 1), ("set", "x", (0, 8), 2), ("say", (0, 2), 0)])
        self.assertEqual(least(half, 2), 0)

    def test_by_name(self):
        self.assertEqual(least(row=2, program=double()), 1)
        self.assertEqual(least_numbers(program=double()), [0, 1, 1, 1, 0])

    def test_least_numbers_of_small_programs(self):
        for seed in range(300):
            program = random_program(seed)
            found = least_numbers(program)
            self.assertEqual([type(number) for number in found], [int] * len(program))
            for row, states in enumerate(brute.lengths(program)):
                self.assertEqual(found[row], brute.least_for(program, row, states), (seed, row))
                self.assertEqual(least(program, row), found[row])

    def test_a_row_that_no_run_reaches(self):
        self.assertEqual(least_numbers(unreached()), [0, 0, 0, 0])
        wanting = Program(4, ["x"], [("stop",), ("ask", "x", 2), ("look", 1)])
        self.assertEqual(least_numbers(wanting), [0, 0, 0])

    def test_a_doubled_number(self):
        for width in (1, 2, 8, 64):
            rows = [("ask", "x", 1), ("set", "x", (0, 2), 2), ("say", (0, 1 << (width - 1)), 0)]
            self.assertEqual(least_numbers(Program(width, ["x"], rows)), [0, 0, 0])
            rows[1] = ("set", "x", (0, 1), 2)
            self.assertEqual(least_numbers(Program(width, ["x"], rows)), [0, 1, 1])

    def test_a_number_of_which_one_bit_is_left(self):
        for width in (3, 64):
            top = 1 << (width - 1)
            rows = [("ask", "x", 1), ("ask", "y", 2), ("say", (0, top, 1), 3), ("say", (0, 0, top), 4), ("stop",)]
            self.assertEqual(least_numbers(Program(width, ["x", "y"], rows)), [0, 1, 1, 1, 0])
            rows[3] = ("say", (0, 0, 1), 4)
            self.assertEqual(least_numbers(Program(width, ["x", "y"], rows)), [0, 1, 2, 1, 0])

    def test_row_0_in_a_loop(self):
        loop = Program(8, ["x", "y"], [("say", (0, 1, 4), 1), ("ask", "x", 2), ("set", "y", (0, 2, 0), 0)])
        self.assertEqual(least_numbers(loop), [1, 0, 1])
        self.assertEqual(least(Program(8, ["x"], [("look", 0)]), 0), 0)

    def test_wide_programs_with_loops(self):
        for program in [dense_program()] + [random_program(seed, 64, 6, 25) for seed in range(20)]:
            for row, number in enumerate(least_numbers(program)):
                self.assertEqual(number, len(paper(program, row)[1]))
                self.assertEqual(shown(program, row, paper(program, row)), number)
        self.assertGreaterEqual(min(least_numbers(dense_program())[1:]), 3)
        self.assertEqual(least_numbers(shifts()), [5, 5, 5, 5, 5, 5, 5, 1, 0])

    def test_no_row(self):
        for bad in no_integers() + [-1, 5, 10 ** 30]:
            for asked, more in ((least, ()), (table, (None,)), (shown, (None,)), (paper, ())):
                with self.assertRaises(NoRow) as caught:
                    asked(double(), bad, *more)
                self.assertIs(caught.exception.row, bad)


class Papers(unittest.TestCase):
    def check_paper(self, program, row, reached):
        found = paper(program, row)
        number = least(program, row)
        self.assertEqual([type(part) for part in (found,) + found], [tuple, list, list])
        if not reached:
            self.assertEqual(found, ([], []))
            self.assertEqual((table(program, row, found), shown(program, row, found), number), ([], 0, 0))
            return
        runs, ways = found
        self.assertEqual((len(runs), len(ways)), (number + 1, number))
        self.assertTrue(all(type(numbers) is tuple and run(program, numbers)[0] == row for numbers in runs))
        self.assertTrue(all([type(part) for part in (item,) + item] == [tuple, tuple, int] for item in ways))
        rows = table(program, row, found)
        self.assertEqual(rows, [tuple(go_on(program, row, run(program, numbers)[1], on)[2][index] for on, index in ways)
                                for numbers in runs])
        less = [[a - b for a, b in zip(line, rows[0])] for line in rows[1:]]
        self.assertEqual(len(smith(program.width, less)), number)
        self.assertEqual(shown(program, row, found), number)

    def test_papers_of_small_programs(self):
        for seed in range(300):
            program = random_program(seed)
            for row, states in enumerate(brute.lengths(program)):
                self.check_paper(program, row, bool(states))

    def test_papers_of_wide_programs(self):
        for program in [dense_program(), shifts()] + [random_program(seed, 64, 6, 25) for seed in range(10)]:
            for row in range(len(program)):
                self.check_paper(program, row, bool(paper(program, row)[0]))

    def test_papers_that_are_handed_in(self):
        for seed in range(60):
            program = random_program(seed, width=1 + seed % 2)
            rng = random.Random(seed)
            numbers = tuple(self.some_way(program, rng, 0))
            row = run(program, numbers)[0]
            runs = [numbers, list(numbers)] + [other for other in [self.some_way(program, rng, 0) for _ in range(20)]
                                               if run(program, other)[0] == row]
            ways = self.some_ways(program, rng, row)
            found = table(program, row, (runs, ways))
            self.assertEqual(found, [tuple(go_on(program, row, run(program, numbers)[1], on)[2][index]
                                           for on, index in ways) for numbers in runs])
            less = [[(a - b) % 2 ** program.width for a, b in zip(line, found[0])] for line in found[1:]]
            module = brute.module_of(program.width, len(ways), less)
            self.assertEqual(shown(program, row, (runs, ways)),
                             brute.least_generators(program.width, len(ways), module))
            self.assertLessEqual(shown(program, row, (runs, ways)), least(program, row))

    def some_way(self, program, rng, row, many=6):
        numbers = []
        for _ in range(rng.randint(0, many)):
            item = program[row]
            if item[0] == "stop":
                break
            numbers.append(rng.randint(-9, 9) if item[0] == "ask" else
                           rng.randrange(len(item[1])) if item[0] == "choose" else 0)
            row = item[1][numbers[-1]] if item[0] == "choose" else item[-1]
        return numbers

    def some_ways(self, program, rng, row):
        ways = []
        state = (0,) * len(program.variables)
        for _ in range(12):
            numbers = self.some_way(program, rng, row)
            said = go_on(program, row, state, numbers)[2]
            if said:
                ways.append((rng.choice([tuple, list])(numbers), rng.randrange(len(said))))
        return ways

    def test_table_of_double(self):
        given = ([(0, 0), [1, 0], (256 + 7, 0, 0, 0)], [((0, 0), 0), ([0, 0, 0, 0, 1], 1), ((0, 0, 1), 0)])
        self.assertEqual(table(double(), 2, given), [(3,) * 3, (5,) * 3, (17,) * 3])
        self.assertEqual(shown(double(), 2, given), 1)
        self.assertEqual(table(paper=given, row=2, program=double()), [(3,) * 3, (5,) * 3, (17,) * 3])
        self.assertEqual(shown(paper=given, row=2, program=double()), 1)
        self.assertEqual(len(paper(row=2, program=double())[1]), 1)

    def test_numbers_asked_on_a_way(self):
        program = Program(8, ["x", "y"], [("ask", "x", 1), ("set", "y", (1, 3, 1), 2), ("say", (0, 0, 1), 0)])
        given = ([(), (4, 0, 0), (4, 0, 0, 9, 0, 0)], [((7, 0, 0), 0), ((258, 0, 0, -1, 0, 0), 1)])
        self.assertEqual(table(program, 0, given), [(22, 5), (35, 18), (63, 46)])
        self.assertEqual(shown(program, 0, given), 1)

    def test_little_papers(self):
        for given, rows in ((([], []), []), (([], [((0, 0), 0)]), []), (([(0, 0)], []), [()]),
                            (([(0, 0), (1, 0)], []), [(), ()]), (([(0, 0)], [((0, 0), 0)]), [(3,)])):
            self.assertEqual(table(double(), 2, given), rows)
            self.assertEqual(shown(double(), 2, given), 0)
        equal = ([(1, 0), (1, 0), (129, 0)], [((0, 0), 0)])
        self.assertEqual((table(double(), 2, equal), shown(double(), 2, equal)), ([(5,)] * 3, 0))

    def test_doubled_numbers_count_if_they_are_not_0(self):
        program = Program(3, ["x", "y"], [("ask", "x", 1), ("ask", "y", 2), ("say", (0, 2, 0), 3), ("say", (0, 0, 4), 2)])
        ways = [((0,), 0), ((0, 0), 1)]
        self.assertEqual(shown(program, 2, ([(0, 0), (1, 0), (0, 1)], ways)), 2)
        self.assertEqual(shown(program, 2, ([(0, 0), (1, 0), (0, 2)], ways)), 1)
        self.assertEqual(shown(program, 2, ([(0, 0), (4, 0), (0, 2)], ways)), 0)

    def test_a_code_with_fewer_registers_fails_on_the_paper(self):
        program = Program(2, ["x", "y"], [("ask", "x", 1), ("ask", "y", 2), ("look", 3), ("stop",)])
        runs, ways = paper(program, 2)
        self.assertEqual(least(program, 2), 2)
        for seed in range(100):
            rng = random.Random(seed)
            one = tuple(rng.randrange(4) for _ in range(2))
            code = Code(2, [0, 1, 1, 0], [("ask", (1,), (), ((one,),)), ("ask", (2,), (), ((one + (seed % 4,),),)),
                                          ("go", (3,), ((seed % 3, 1), one), ((),)), ("stop", (), (), ())], ())
            said = [tuple(run_code(code, tuple(numbers) + tuple(on))[2][index] for on, index in ways)
                    for numbers in runs]
            self.assertNotEqual(said, table(program, 2, (runs, ways)))

    def test_many_runs_and_ways(self):
        program = dense_program(64)
        runs, ways = paper(program, 2)
        runs = [(at, 0) for at in range(60)] + runs
        self.assertEqual(shown(program, 2, (runs, ways * 20)), least(program, 2))


class Wrong(unittest.TestCase):
    def no_paper(self, given, part, index, row=2):
        for asked in (table, shown):
            with self.assertRaises(NoPaper) as caught:
                asked(double(), row, given)
            self.assertEqual((caught.exception.part, caught.exception.index), (part, index))

    def test_paper(self):
        for bad in odd_values() + no_sequences() + [[[], []], (), ([],), ([], [], []), ((), []), ([], ()), "ab", ("", "")]:
            self.no_paper(bad, "paper", -1)
            self.no_paper(([], bad) if type(bad) is not list else (bad, ()), "paper", -1)
            self.no_paper((bad, []) if type(bad) is not list else ((), bad), "paper", -1)

    def test_runs(self):
        good = (0, 0)
        for bad in no_sequences() + [(), (0,), (0, 0, 0), (0, 0, 1), (0, 1), (0, 0, 0, 0, 1), (True, 0), (0, 0, 2),
                                     ("0", 0), (0, None), [[0, 0]], {0: 0}]:
            self.no_paper(([good, bad, bad], []), "runs", 1)
            self.no_paper(([bad], [None]), "runs", 0)
        self.no_paper(([()], []), "runs", 0)
        self.assertEqual(table(double(), 0, ([(), []], [])), [(), ()])

    def test_ways(self):
        good = ((0, 0), 0)
        numbers = no_sequences() + [(), (0,), (1,), (1, 0), (0, 1), (0, 0, 2), (0, True), (None, 0), (2, 0)]
        for bad in [(on, 0) for on in numbers] + [((0, 0), index) for index in no_integers() + [1, -1, 10 ** 30]]:
            self.no_paper(([(0, 0)], [good, bad, None]), "ways", 1)
        for bad in no_sequences() + [[(0, 0), 0], (), ((0, 0),), ((0, 0), 0, 0), (0, (0, 0))]:
            self.no_paper(([], [bad, good]), "ways", 0)

    def test_two_things_wrong(self):
        for bad in (9, True, None):
            with self.assertRaises(NoRow):
                table(double(), bad, None)
        self.no_paper(([(0, 0), None], (None,)), "paper", -1)
        self.no_paper(([None], [None]), "runs", 0)
        self.no_paper(([(0, 0), (0, 0), (5,)], [None]), "runs", 2)

    def test_a_row_that_no_run_reaches(self):
        for numbers in ((), (0,), (0, 0)):
            with self.assertRaises(NoPaper) as caught:
                table(unreached(), 1, ([numbers], []))
            self.assertEqual((caught.exception.part, caught.exception.index), ("runs", 0))
        self.assertEqual(table(unreached(), 1, ([], [((3, 0), 1)])), [])
        self.assertEqual(shown(unreached(), 1, ([], [((3, 0), 1)])), 0)


class Arguments(unittest.TestCase):
    def test_arguments_stay_and_lists_are_new(self):
        given = ([[0, 0], (1, 0)], [([0, 0], 0)])
        table(double(), 2, given)
        shown(double(), 2, given)
        self.assertEqual(given, ([[0, 0], (1, 0)], [([0, 0], 0)]))
        program = double()
        first = least_numbers(program)
        first.append(1)
        self.assertEqual(least_numbers(program), [0, 1, 1, 1, 0])
        runs, ways = paper(program, 2)
        kept = (list(runs), list(ways))
        runs.append(1)
        ways.clear()
        self.assertEqual(paper(program, 2), kept)
        rows = table(program, 2, given)
        rows.append(1)
        self.assertEqual(table(program, 2, given), [(3,), (5,)])

    def test_lists_and_tuples(self):
        for given in (([(0, 0), (1, 0)], [((0, 0), 0)]), ([[0, 0], [1, 0]], [([0, 0], 0)])):
            self.assertEqual((table(double(), 2, given), shown(double(), 2, given)), ([(3,), (5,)], 1))

    def test_equal_programs(self):
        other = Program(8, ("x", "y"), tuple(double().rows))
        self.assertEqual([paper(other, row) for row in range(5)], [paper(double(), row) for row in range(5)])
        self.assertEqual(least_numbers(once()), [0, 1, 0])
        self.assertEqual(twice().counts, (0, 1, 0))


if __name__ == "__main__":
    unittest.main()
