"""What is wanted: points 2, 3 and 24 to 27."""

import itertools
import unittest

from leastkeep.errors import NoForm, NoRow, NoState
from leastkeep.modules import echelon, generators, is_in
from leastkeep.programs import Program
from leastkeep.runs import go_on
from leastkeep.wants import all_wanted, is_spanning_ways, is_wanted, spanning_ways, told_apart, wanted
from tests import brute
from tests.samples import double, no_integers, no_sequences, random_program, shifts


def linear_part(program, row, numbers, index):
    """What a number that a way on says changes by, if one variable is 1 instead of 0."""
    size = len(program.variables)
    zero = go_on(program, row, (0,) * size, numbers)[2][index]
    units = [tuple(int(at == place) for at in range(size)) for place in range(size)]
    return tuple((go_on(program, row, unit, numbers)[2][index] - zero) % 2 ** program.width for unit in units)


def halved():
    """Of x only the lowest bit can still be said behind row 1, and y is forgotten."""
    return Program(8, ["x", "y"], [("set", "x", (0, 128, 0), 1), ("ask", "y", 2), ("say", (5, 1, 3), 3), ("stop",)])


class Wants(unittest.TestCase):
    def test_examples(self):
        self.assertEqual(wanted(double(), 2), [(1, 1)])
        self.assertEqual(wanted(double(), 1), [(2, 0)])
        self.assertIs(is_wanted(double(), 1, (7, 4, 0)), True)
        self.assertTrue(is_spanning_ways(double(), 2, [((0, 0), 0)]))
        self.assertEqual(len(spanning_ways(double(), 2)), 1)
        self.assertIsNone(told_apart(double(), 2, (1, 2), (2, 1)))
        self.assertEqual(told_apart(double(), 2, (1, 2), (2, 2)), (0, 0))

    def test_by_name(self):
        self.assertEqual(wanted(row=2, program=double()), [(1, 1)])
        self.assertEqual(all_wanted(program=double()), [[], [(2, 0)], [(1, 1)], [(1, 1)], []])
        self.assertIs(is_wanted(form=(7, 4, 1), row=1, program=double()), False)
        ways = spanning_ways(row=2, program=double())
        self.assertIs(is_spanning_ways(ways=ways, row=2, program=double()), True)
        self.assertEqual(told_apart(other=(2, 2), one=(1, 2), row=2, program=double()), (0, 0))

    def test_wanted_in_small_programs(self):
        for seed in range(120):
            program = random_program(seed, size=1 + seed % 2)
            width, size = program.width, len(program.variables)
            found = all_wanted(program)
            self.assertEqual(found, [wanted(program, row) for row in range(len(program))])
            for row in range(len(program)):
                module = brute.module_of(width, size, brute.linear_parts(program, row))
                self.assertEqual(brute.module_of(width, size, found[row]), module)
                self.assertEqual(found[row], echelon(width, size, found[row]))
                for part in itertools.product(range(2 ** width), repeat=size):
                    self.assertIs(is_wanted(program, row, (seed,) + part), part in module)

    def test_spanning_ways_of_small_programs(self):
        for seed in range(150):
            program = random_program(seed)
            for row in range(len(program)):
                self.check_ways(program, row)

    def check_ways(self, program, row):
        width, size = program.width, len(program.variables)
        ways = spanning_ways(program, row)
        self.assertEqual(len(ways), generators(width, size, wanted(program, row)))
        self.assertIs(type(ways), list)
        for item in ways:
            self.assertEqual([type(part) for part in (item,) + item], [tuple, tuple, int])
        parts = [linear_part(program, row, numbers, index) for numbers, index in ways]
        self.assertEqual(echelon(width, size, parts), wanted(program, row))
        self.assertIs(is_spanning_ways(program, row, ways), True)
        self.assertIs(is_spanning_ways(program, row, ways[1:]), not ways)

    def test_told_apart_in_small_programs(self):
        for seed in range(60):
            program = random_program(seed, width=1 + seed % 2, size=1 + seed // 2 % 2)
            states = list(itertools.product(range(2 ** program.width), repeat=len(program.variables)))
            for row in range(len(program)):
                for one, other in itertools.product(states[:5], states):
                    self.check_apart(program, row, one, other, brute.least_way_apart(program, row, one, other))

    def check_apart(self, program, row, one, other, length):
        found = told_apart(program, row, one, other)
        if length is None:
            self.assertIsNone(found)
            return
        self.assertEqual((type(found), len(found)), (tuple, length))
        self.assertNotEqual(go_on(program, row, one, found)[2], go_on(program, row, other, found)[2])
        self.assertEqual(go_on(program, row, one, found[:-1])[2], go_on(program, row, other, found[:-1])[2])

    def test_apart_exactly_if_what_is_wanted_differs(self):
        for seed in range(60):
            program = random_program(seed, width=2, size=2)
            for row, rows in enumerate(all_wanted(program)):
                for one in itertools.product(range(4), repeat=2):
                    same = all(sum(a * b for a, b in zip(one, item)) % 4 == 0 for item in rows)
                    self.assertIs(told_apart(program, row, (1, 2), (one[0] + 1, one[1] + 2)) is None, same)

    def test_wide_programs_with_loops(self):
        for seed in range(5):
            program = random_program(seed, width=64, size=6, many=25)
            for row in range(25):
                self.check_ways(program, row)
                one, other = (0,) * 6, (2 ** 63, 0, 0, 2 ** 62, 5, 0)
                found = told_apart(program, row, one, other)
                same = all(sum(a * b for a, b in zip(other, item)) % 2 ** 64 == 0 for item in wanted(program, row))
                self.assertIs(found is None, same)
                if found is not None:
                    self.check_apart(program, row, one, other, len(found))

    def test_a_long_way_on(self):
        for place in range(5):
            other = tuple(2 ** 63 if at == place else 0 for at in range(6))
            self.check_apart(shifts(), 0, (0,) * 6, other, 7 * (5 - place) + 1)
            self.check_apart(shifts(), 6, (0,) * 6, other, 7 * (5 - place) + 2)
        self.check_apart(shifts(), 6, (0,) * 6, (0,) * 5 + (2 ** 63,), 2)
        self.assertIsNone(told_apart(shifts(), 0, (0,) * 6, (0,) * 5 + (1,)))
        self.assertEqual(wanted(shifts(), 0), [tuple(int(at == place) for at in range(6)) for place in range(5)])
        self.check_ways(shifts(), 0)

    def test_a_doubled_number(self):
        self.assertEqual(all_wanted(halved()), [[(128, 0)], [(1, 0)], [(1, 3)], []])
        self.assertIsNone(told_apart(halved(), 0, (1, 5), (3, 6)))
        self.assertEqual(told_apart(halved(), 0, (1, 5), (2, 5)), (0, 0, 0))
        gone = Program(8, ["x", "y"], [("set", "x", (0, 16, 0), 1), ("set", "x", (0, 16, 0), 2), ("look", 3), ("stop",)])
        self.assertEqual(all_wanted(gone), [[(0, 1)], [(16, 0), (0, 1)], [(1, 0), (0, 1)], []])
        self.assertIsNone(told_apart(gone, 0, (1, 5), (2, 5)))

    def test_a_form_said_twice(self):
        rows = [("say", (1, 1, 1), 1), ("say", (2, 1, 1), 2), ("say", (0, 2, 0), 3), ("stop",)]
        program = Program(2, ["x", "y"], rows)
        self.assertEqual(wanted(program, 0), [(1, 1), (0, 2)])
        self.check_ways(program, 0)
        self.assertIs(is_spanning_ways(program, 0, [((0, 0, 0), 0), ((0, 0), 1), ([0, 0, 0], 2)]), True)
        self.assertIs(is_spanning_ways(program, 0, [((0, 0, 0), 0), ((0, 0), 1)]), False)
        self.assertIs(is_spanning_ways(program, 0, [((0, 0, 0), 2), ((0, 0, 0), 1)]), True)

    def test_forms_that_are_0_always(self):
        program = Program(8, ["x"], [("say", (7, 256), 1), ("say", (0, 0), 0)])
        self.assertEqual(all_wanted(program), [[], []])
        self.assertEqual(spanning_ways(program, 0), [])
        self.assertIs(is_spanning_ways(program, 0, [((0,), 0), ((0, 0), 1)]), True)
        self.assertIsNone(told_apart(program, 0, (1,), (2,)))
        self.assertIs(is_wanted(program, 0, (1, 0)), True)
        self.assertIs(is_wanted(program, 0, (0, 1)), False)

    def test_rows_that_no_run_reaches(self):
        program = Program(8, ["x"], [("stop",), ("say", (0, 2), 1)])
        self.assertEqual(all_wanted(program), [[], [(2,)]])
        self.assertEqual(told_apart(program, 1, (0,), (1,)), (0,))
        self.check_ways(program, 1)

    def test_stop_rows(self):
        self.assertEqual((wanted(double(), 4), spanning_ways(double(), 4)), ([], []))
        self.assertIsNone(told_apart(double(), 4, (0, 0), (1, 2)))
        self.assertIs(is_wanted(double(), 4, (9, 256, 0)), True)
        self.assertIs(is_wanted(double(), 4, (0, 1, 0)), False)

    def test_looks(self):
        program = Program(8, ["x", "y"], [("look", 1), ("set", "x", (0, 0, 4), 2), ("look", 1)])
        self.assertEqual(all_wanted(program), [[(1, 0), (0, 1)], [(0, 1)], [(1, 0), (0, 1)]])
        self.assertEqual(told_apart(program, 1, (0, 64), (0, 128)), (0, 0))
        self.check_ways(program, 0)
        self.assertIs(is_spanning_ways(program, 0, [((0,), 0), ((0, 0, 0), 3)]), True)
        self.assertIs(is_spanning_ways(program, 0, [((0,), 0), ((0, 0, 0), 2)]), False)

    def test_what_is_asked_is_no_variable(self):
        program = Program(8, ["x", "y"], [("ask", "x", 1), ("say", (0, 1, 2), 2), ("stop",)])
        self.assertEqual(wanted(program, 0), [(0, 2)])
        self.assertIs(is_spanning_ways(program, 0, [((77, 0), 0)]), True)
        self.assertIsNone(told_apart(program, 0, (1, 2), (5, 130)))
        self.assertEqual(len(told_apart(program, 0, (1, 2), (1, 3))), 2)


class SpanningWays(unittest.TestCase):
    def test_however_many(self):
        for ways in ([((0, 0), 0)], [([0, 0], 0)], [((0, 0, 0, 0), 1), ((0, 0), 0)], [((0, 0, 1), 0)] * 3):
            self.assertIs(is_spanning_ways(double(), 2, ways), True)
        self.assertIs(is_spanning_ways(double(), 0, []), True)
        self.assertIs(is_spanning_ways(double(), 0, [((5, 0, 0, 0), 0)]), True)
        self.assertIs(is_spanning_ways(double(), 4, []), True)

    def test_too_little(self):
        self.assertIs(is_spanning_ways(double(), 2, []), False)
        program = Program(4, ["x"], [("say", (0, 2), 1), ("say", (0, 1), 0)])
        self.assertIs(is_spanning_ways(program, 0, [((0,), 0)]), False)
        self.assertIs(is_spanning_ways(program, 0, [((0, 0, 0), 2)]), False)
        self.assertIs(is_spanning_ways(program, 0, [((0, 0, 0), 1)]), True)

    def test_no_ways(self):
        right = ((0, 0), 0)
        bad_numbers = no_sequences() + [(), (0,), (1,), (1, 0), (0, 1), (0, 0, 2), (0, True), (None, 0), (2, 0)]
        for bad in [(numbers, 0) for numbers in bad_numbers] + [((0, 0), index) for index in no_integers()]:
            self.assertIs(is_spanning_ways(double(), 2, [right, bad]), False)
        for bad in [((0, 0), 1), ((0, 0), -1), ((0, 0), 10 ** 30), ((0, 0, 0, 0), 2), ((0,), 0), ((), 0), [(0, 0), 0],
                    ((0, 0),), ((0, 0), 0, 0), (), (0, (0, 0))] + no_sequences():
            self.assertIs(is_spanning_ways(double(), 2, [bad, right]), False)

    def test_values_of_any_kind(self):
        for bad in no_sequences() + [(((0, 0), 0),), (), {((0, 0), 0): 1}]:
            self.assertIs(is_spanning_ways(double(), 2, bad), False)
            self.assertIs(is_spanning_ways(double(), 4, bad), False)


class Arguments(unittest.TestCase):
    def test_no_row(self):
        for bad in no_integers() + [-1, 5, 10 ** 30]:
            for asked, more in ((wanted, ()), (is_wanted, (None,)), (spanning_ways, ()), (is_spanning_ways, (None,)),
                                (told_apart, (None, None))):
                with self.assertRaises(NoRow) as caught:
                    asked(double(), bad, *more)
                self.assertIs(caught.exception.row, bad)

    def test_no_form(self):
        cases = [(bad, -1) for bad in no_sequences() + [(), (1, 2), [1, 2, 3, 4]]]
        cases += [((bad, 1, bad), 0) for bad in no_integers()] + [([1, 2, bad], 2) for bad in no_integers()]
        for form, index in cases:
            with self.assertRaises(NoForm) as caught:
                is_wanted(double(), 2, form)
            self.assertEqual(caught.exception.index, index)

    def test_no_state(self):
        cases = [(bad, -1) for bad in no_sequences() + [(), (1,), [1, 2, 3]]]
        cases += [((bad, bad), 0) for bad in no_integers()] + [([1, bad], 1) for bad in no_integers()]
        for state, index in cases:
            for one, other in ((state, None), ((1, 2), state)):
                with self.assertRaises(NoState) as caught:
                    told_apart(double(), 2, one, other)
                self.assertEqual(caught.exception.index, index)

    def test_lists_and_tuples_and_big_numbers(self):
        self.assertEqual(told_apart(double(), 2, [257, -254], [2 - 2 ** 64, 2]), (0, 0))
        self.assertIsNone(told_apart(double(), 2, [257, -254], (2 + 2 ** 64, 1)))
        self.assertIs(is_wanted(double(), 1, [7, 4, 0]), True)
        self.assertIs(is_wanted(double(), 1, [10 ** 40, 4 - 256, 2 ** 70]), True)

    def test_arguments_stay_and_lists_are_new(self):
        form, one, ways = [7, 260, 0], [257, 2], [([0, 0], 0)]
        is_wanted(double(), 1, form)
        told_apart(double(), 2, one, one)
        is_spanning_ways(double(), 2, ways)
        self.assertEqual((form, one, ways), ([7, 260, 0], [257, 2], [([0, 0], 0)]))
        program = double()
        for asked in (wanted, spanning_ways):
            first = asked(program, 2)
            first.append(1)
            self.assertEqual(asked(program, 2), first[:-1])
        found = all_wanted(program)
        found[2].append(1)
        found.append(1)
        self.assertEqual(all_wanted(program), [[], [(2, 0)], [(1, 1)], [(1, 1)], []])
        self.assertTrue(is_in(8, 2, wanted(program, 1), (4, 0)))


if __name__ == "__main__":
    unittest.main()
