"""What can still be told: points 2, 3 and 52."""

import unittest

from leastkeep.behaviours import least
from leastkeep.equality import apart
from leastkeep.errors import NoRow
from leastkeep.hulls import all_hulls
from leastkeep.modules import echelon, is_in
from leastkeep.programs import Program
from leastkeep.runs import go_on, run
from leastkeep.tables import table_of
from tests import brute
from tests.samples import dense_program, double, no_integers, random_program, shifts, varied


def ways_in_order(program, row, length):
    """All ways on of at most some length on which 0 is asked, the shorter ones first, then the least one."""
    layer = [((), row)]
    for _ in range(length):
        ahead = []
        for numbers, spot in layer:
            item = program.rows[spot]
            nexts = item[1] if item[0] == "choose" else item[-1:] if item[0] != "stop" else ()
            ahead += [(numbers + (label,), to, spot) for label, to in enumerate(nexts)]
        for numbers, _, last in sorted(ahead):
            yield numbers, last
        layer = [(numbers, to) for numbers, to, _ in sorted(ahead)]


def part_of(program, row, numbers, index):
    """The linear part of a number that a way says."""
    size = len(program.variables)
    zero = go_on(program, row, (0,) * size, numbers)[2][index]
    units = [tuple(int(at == place) for at in range(size)) for place in range(size)]
    return tuple((go_on(program, row, unit, numbers)[2][index] - zero) % 2 ** program.width for unit in units)


class Tables(unittest.TestCase):
    def test_examples(self):
        self.assertEqual(table_of(double(), 2), ([((0, 0), 0)], (1,), [(2,)]))

    def test_by_name(self):
        self.assertEqual(table_of(row=3, program=double()), ([((0,), 0)], (1,), [(2,)]))

    def listed(self, program, row, differences, length):
        """The ways that are told, as far as a length: all ways are gone through, and all elements of modules."""
        width = program.width
        found, rows = [], []
        module = {(0,) * len(differences)}
        for numbers, last in ways_in_order(program, row, length):
            item = program.rows[last]
            many = {"say": 1, "look": len(program.variables)}.get(item[0], 0)
            said = len(go_on(program, row, (0,) * len(program.variables), numbers)[2])
            for index in range(said - many, said):
                part = part_of(program, row, numbers, index)
                told = next(iter(brute.image_of(width, [part], differences)))
                if told not in module:
                    found.append((numbers, index))
                    rows.append(told)
                    module = brute.module_of(width, len(differences), rows)
        return found

    def check_table(self, program, row, states, length):
        found = table_of(program, row)
        if not states:
            self.assertIsNone(found)
            return
        width, size = program.width, len(program.variables)
        ways, base, module = found
        self.assertEqual([type(part) for part in (found,) + found], [tuple, list, tuple, list])
        self.assertTrue(all([type(part) for part in (item,) + item] == [tuple, tuple, int] for item in ways))
        states = list(states)
        differences = [tuple((a - b) % 2 ** width for a, b in zip(state, states[0])) for state in states]
        steps = echelon(width, size, differences)
        self.assertEqual([item for item in ways if len(item[0]) <= length],
                         self.listed(program, row, steps, length))
        parts = [part_of(program, row, numbers, index) for numbers, index in ways]
        wished = brute.image_of(width, brute.linear_parts(program, row), steps)
        self.assertLessEqual(wished, brute.module_of(width, len(steps), brute.image_of(width, parts, steps)))
        self.check_numbers(program, row, states, differences, found)

    def check_numbers(self, program, row, states, differences, found):
        ways, base, module = found
        width = program.width
        told = [tuple(go_on(program, row, state, numbers)[2][index] for numbers, index in ways) for state in states]
        rows = [tuple(a - b for a, b in zip(numbers, told[0])) for numbers in told]
        self.assertEqual(module, echelon(width, len(ways), rows))
        self.assertTrue(is_in(width, len(ways), module, [a - b for a, b in zip(told[0], base)]))
        for item in module:
            column = next(at for at, number in enumerate(item) if number)
            self.assertLess(base[column], item[column])
        self.assertTrue(all(0 <= number < 2 ** width for number in base))

    def test_tables_of_small_programs(self):
        for seed in range(150):
            program = random_program(seed)
            for row, states in enumerate(brute.lengths(program)):
                self.check_table(program, row, states, 5)

    def test_longer_ways_of_small_programs(self):
        for seed in range(150, 220):
            program = random_program(seed, many=4)
            for row, states in enumerate(brute.lengths(program)):
                self.check_table(program, row, states, 7)

    def test_programs_that_are_not_apart_have_equal_tables(self):
        for seed in range(100):
            program = random_program(seed) if seed < 90 else random_program(seed, 64, 6, 25)
            other = varied(program, seed)
            self.assertIsNone(apart(program, other))
            for row in range(len(program)):
                self.assertEqual(table_of(program, row), table_of(other, row))

    def test_the_least_way_of_a_length_comes_first(self):
        rows = [("ask", "x", 1), ("choose", (2, 3, 3)), ("choose", (5, 4)), ("choose", (4, 5)), ("say", (0, 1), 6),
                ("say", (0, 3), 6), ("stop",)]
        self.assertEqual(table_of(Program(8, ["x"], rows), 1), ([((0, 0, 0), 0)], (0,), [(1,)]))
        rows[2] = ("set", "x", (0, 2), 5)
        self.assertEqual(table_of(Program(8, ["x"], rows), 1),
                         ([((0, 0, 0), 0), ((1, 0, 0), 0)], (0, 0), echelon(8, 2, [(6, 1)])))

    def test_shorter_ways_come_first(self):
        rows = [("ask", "x", 1), ("choose", (2, 3)), ("set", "x", (0, 1), 3), ("say", (1, 2), 4), ("look", 1)]
        found = table_of(Program(4, ["x"], rows), 1)
        self.assertEqual(found, ([((1, 0), 0), ((1, 0, 0), 1)], (1, 0), [(2, 1), (0, 8)]))

    def test_the_index_counts_all_numbers_of_the_way(self):
        rows = [("ask", "x", 1), ("ask", "y", 2), ("say", (9, 0, 0), 3), ("look", 4), ("set", "x", (0, 1, 1), 5),
                ("look", 5)]
        program = Program(8, ["x", "y"], rows)
        self.assertEqual(table_of(program, 2), ([((0, 0), 1), ((0, 0), 2)], (0, 0), [(1, 0), (0, 1)]))
        self.assertEqual(table_of(program, 4), ([((0, 0), 0), ((0, 0), 1)], (0, 0), [(1, 0), (0, 1)]))

    def test_doubled_numbers_are_told_until_all_is_told(self):
        rows = [("ask", "x", 1), ("say", (0, 4), 2), ("say", (0, 6), 3), ("say", (5, 5), 4), ("say", (0, 1), 5), ("stop",)]
        found = table_of(Program(8, ["x"], rows), 1)
        self.assertEqual(found, ([((0,), 0), ((0, 0), 1), ((0, 0, 0), 2)], (0, 0, 5), echelon(8, 3, [(4, 6, 5)])))

    def test_asked_numbers_are_0(self):
        rows = [("ask", "x", 1), ("ask", "y", 2), ("say", (5, 1, 7), 3), ("stop",)]
        self.assertEqual(table_of(Program(8, ["x", "y"], rows), 1), ([((0, 0), 0)], (0,), [(1,)]))
        rows = [("ask", "x", 1), ("set", "x", (3, 4, 0), 2), ("ask", "y", 3), ("say", (5, 1, 7), 3)]
        self.assertEqual(table_of(Program(8, ["x", "y"], rows), 2), ([((0, 0), 0)], (0,), [(4,)]))

    def test_a_row_with_one_state(self):
        self.assertEqual(table_of(double(), 0), ([], (), []))
        self.assertEqual(table_of(Program(8, ["x"], [("look", 0)]), 0), ([], (), []))
        self.assertEqual(table_of(double(), 4), ([], (), []))

    def test_a_row_that_no_run_reaches(self):
        program = Program(8, ["x"], [("stop",), ("ask", "x", 2), ("look", 1)])
        self.assertEqual([table_of(program, row) for row in range(3)], [([], (), []), None, None])

    def test_wide_programs_with_loops(self):
        for program in [dense_program(), dense_program(1), shifts()] + [random_program(n, 64, 6, 25) for n in range(8)]:
            hulls = all_hulls(program)
            for row in range(len(program)):
                found = table_of(program, row)
                self.assertIs(found is None, hulls[row] is None)
                if found is not None:
                    self.check_wide(program, row, found, hulls[row])

    def check_wide(self, program, row, found, there):
        ways, base, module = found
        self.assertGreaterEqual(len(ways), least(program, row))
        self.assertEqual(ways, sorted(ways, key=lambda item: (len(item[0]), item)))
        base_told = [go_on(program, row, there[0], numbers)[2][index] for numbers, index in ways]
        self.assertTrue(is_in(program.width, len(ways), module, [a - b for a, b in zip(base_told, base)]))
        told = []
        for difference in there[1]:
            state = tuple(a + b for a, b in zip(there[0], difference))
            numbers = [go_on(program, row, state, on)[2][index] for on, index in ways]
            told.append([a - b for a, b in zip(numbers, base_told)])
        self.assertEqual(module, echelon(program.width, len(ways), told))

    def test_many_ways(self):
        """Each label sets another variable to the one behind it, and there are 6 ** 5 ways to what is said of e."""
        names = ["a", "b", "c", "d", "e", "f"]
        rows = [("ask", "a", 1), ("choose", (2, 3, 4, 5, 6, 7))]
        rows += [("set", names[at], (0,) + tuple(int(k == (at + 1) % 6) for k in range(6)), 8) for at in range(6)]
        rows += [("choose", (1, 9)), ("say", (1, 0, 0, 0, 0, 0, 1), 1)]
        program = Program(64, names, rows)
        ways = [((0, 0, 1, 0), 0), ((5, 0, 1, 0), 0), ((0, 0, 0, 5, 0, 1, 0), 0), ((1, 0, 0, 0, 0, 0, 5, 0, 1, 0), 0),
                ((2, 0, 0, 1, 0, 0, 0, 0, 0, 5, 0, 1, 0), 0), ((3, 0, 0, 2, 0, 0, 1, 0, 0, 0, 0, 0, 5, 0, 1, 0), 0)]
        units = [tuple(int(at == place) for at in range(6)) for place in range(6)]
        self.assertEqual(table_of(program, 1), (ways, (0,) * 6, units))


class Arguments(unittest.TestCase):
    def test_no_row(self):
        for bad in no_integers() + [-1, 5, 10 ** 30]:
            with self.assertRaises(NoRow) as caught:
                table_of(double(), bad)
            self.assertIs(caught.exception.row, bad)

    def test_lists_are_new(self):
        program = double()
        ways, _, module = table_of(program, 2)
        ways.append(1)
        module.clear()
        self.assertEqual(table_of(program, 2), ([((0, 0), 0)], (1,), [(2,)]))
        self.assertEqual(run(program, [0, 0])[1], (0, 3))


if __name__ == "__main__":
    unittest.main()
