"""Rows that are alike: points 2, 3 and 55."""

import unittest

from leastkeep.alike import alike, classes
from leastkeep.behaviours import least_numbers
from leastkeep.errors import NoRow
from leastkeep.programs import Program
from leastkeep.tables import table_of
from tests import brute
from tests.samples import changed_program, dense_program, double, no_integers, random_program, shifts, varied


def say_or_say(second=(7, 3), width=8):
    return Program(width, ["x"], [("ask", "x", 1), ("choose", (2, 3)), ("say", (0, 1), 4), ("say", second, 4), ("stop",)])


class Slow:
    """Which rows of two programs are alike: from each state of the one hull, all states of the other are tried."""

    def __init__(self, one, other):
        colors = brute.behaviours([one, other])
        self.told = []
        for index, program in enumerate((one, other)):
            self.told.append([None if not states else
                              {colors[index, row, state] for state in brute.hull_of(program.width, states)}
                              for row, states in enumerate(brute.lengths(program))])

    def alike(self, row, spot):
        return self.told[0][row] == self.told[1][spot]


class Alike(unittest.TestCase):
    def test_examples(self):
        self.assertIs(alike(say_or_say(), 2, say_or_say(), 3), True)
        self.assertEqual(classes(say_or_say()), [[0], [1], [2, 3], [4]])

    def test_by_name(self):
        self.assertIs(alike(spot=3, other=say_or_say(), row=2, one=say_or_say()), True)
        self.assertEqual(classes(program=say_or_say()), [[0], [1], [2, 3], [4]])

    def check_all(self, one, other, told):
        slow = Slow(one, other)
        for row in range(len(one)):
            for spot in range(len(other)):
                found = alike(one, row, other, spot)
                self.assertIs(found, slow.alike(row, spot))
                self.assertIs(alike(other, spot, one, row), found)
                told[found] += 1

    def test_rows_of_one_small_program(self):
        told = [0, 0]
        for seed in range(70):
            program = random_program(seed, size=1 + seed % 2)
            self.check_all(program, program, told)
        self.assertGreater(min(told), 300)

    def test_rows_of_two_small_programs(self):
        told = [0, 0]
        for seed in range(120):
            width = 1 + seed % 3
            program = random_program(seed, width, 1 + seed % 2)
            other = [changed_program, varied, lambda program, seed: random_program(seed + 1, width, 1 + seed // 2 % 2),
                     changed_program][seed // 3 % 4](program, seed)
            self.check_all(program, other, told)
        self.assertGreater(min(told), 300)

    def test_classes_of_small_programs(self):
        for seed in range(100):
            program = random_program(seed, size=1 + seed % 2)
            slow = Slow(program, program)
            wished = []
            for row in range(len(program)):
                fitting = [rows for rows in wished if slow.alike(row, rows[0])]
                if fitting:
                    fitting[0].append(row)
                else:
                    wished.append([row])
            found = classes(program)
            self.assertEqual(found, wished)
            self.assertEqual([type(rows) for rows in [found] + found], [list] * (1 + len(found)))

    def test_forms_that_say_all_numbers(self):
        for second, told in (((7, 3), True), ((7, 5), True), ((7, 2), False), ((0, 0), False), ((9, 255), True)):
            self.assertIs(alike(say_or_say(second), 2, say_or_say(second), 3), told)
            self.assertIs(alike(say_or_say(second, 64), 2, say_or_say(second, 64), 3), told)

    def test_equal_tables_of_rows_that_are_not_alike(self):
        one = Program(8, ["x"], [("choose", (1, 2)), ("say", (1, 0), 3), ("say", (2, 0), 3), ("stop",)])
        self.assertEqual(table_of(one, 1), table_of(one, 2))
        self.assertIs(alike(one, 1, one, 2), False)
        two = Program(8, ["x", "y"], [("ask", "x", 1), ("choose", (2, 4)), ("ask", "y", 3), ("say", (0, 1, 1), 6),
                                      ("ask", "y", 5), ("say", (0, 1, 2), 6), ("stop",)])
        self.assertEqual(table_of(two, 2), table_of(two, 4))
        self.assertIs(alike(two, 2, two, 4), False)

    def test_a_constant_behind_what_is_asked(self):
        rows = [("choose", (1, 3)), ("ask", "x", 2), ("say", (0, 1), 5), ("ask", "x", 4), ("say", (0, 257), 5), ("stop",)]
        self.assertIs(alike(Program(8, ["x"], rows), 1, Program(8, ["x"], rows), 3), True)
        rows[4] = ("say", (1, 1), 5)
        self.assertIs(alike(Program(8, ["x"], rows), 1, Program(8, ["x"], rows), 3), False)
        self.assertIs(alike(Program(8, ["x"], rows), 2, Program(8, ["x"], rows), 4), True)

    def test_kinds_of_rows(self):
        rows = [("choose", (1, 2, 3, 4, 5)), ("choose", (6,)), ("set", "x", (0, 1), 6), ("say", (0, 0), 6),
                ("choose", (6, 6)), ("ask", "x", 6), ("stop",), ("choose", (1, 6))]
        program = Program(8, ["x"], rows)
        self.assertEqual(classes(program), [[0], [1, 2], [3], [4], [5], [6], [7]])
        silent = Program(8, ["x"], [("set", "x", (1, 1), 0)])
        self.assertIs(alike(program, 1, silent, 0), False)
        self.assertIs(alike(Program(8, ["x"], [("choose", (0,))]), 0, silent, 0), True)
        self.assertIs(alike(Program(8, ["x"], [("choose", (0, 0))]), 0, silent, 0), False)
        self.assertIs(alike(Program(8, ["x"], [("ask", "x", 0)]), 0, silent, 0), False)

    def test_how_many_numbers_a_row_says(self):
        one = Program(8, ["x"], [("look", 0)])
        self.assertIs(alike(one, 0, Program(8, ["x"], [("say", (0, 0), 0)]), 0), True)
        self.assertIs(alike(one, 0, Program(8, ["x"], [("say", (0, 1), 0)]), 0), True)
        self.assertIs(alike(one, 0, Program(8, ["x", "y"], [("look", 0)]), 0), False)
        self.assertIs(alike(one, 0, Program(8, ["x", "y"], [("say", (0, 1, 1), 0)]), 0), True)
        early = Program(8, ["x"], [("say", (0, 0), 1), ("set", "x", (0, 0), 0)])
        self.assertIs(alike(early, 0, early, 1), False)

    def test_loops_of_unlike_lengths(self):
        one = Program(8, ["x"], [("say", (5, 0), 0)])
        three = Program(8, ["y"], [("say", (5, 9), 1), ("say", (5, 0), 2), ("say", (5, 1), 0)])
        for spot in range(3):
            self.assertIs(alike(one, 0, three, spot), True)
        self.assertEqual(classes(three), [[0, 1, 2]])

    def test_rows_that_no_run_reaches(self):
        one = Program(8, ["x"], [("stop",), ("stop",), ("ask", "x", 2), ("look", 1)])
        self.assertEqual(classes(one), [[0], [1, 2, 3]])
        self.assertEqual([alike(one, 0, one, 1), alike(one, 1, one, 0), alike(one, 1, one, 3)], [False, False, True])
        other = Program(8, ["x", "y"], [("stop",), ("choose", (0, 0))])
        self.assertEqual([alike(one, 2, other, 1), alike(one, 0, other, 1), alike(one, 0, other, 0)], [True, False, True])

    def test_unlike_widths(self):
        self.assertIs(alike(say_or_say(), 2, say_or_say(width=9), 2), False)
        self.assertIs(alike(double(8), 4, double(7), 4), False)
        self.assertIs(alike(Program(8, ["x"], [("stop",)] * 2), 1, Program(7, ["x"], [("stop",)] * 2), 1), False)

    def test_hulls_are_asked_for_not_states(self):
        rows = [("choose", (1, 2, 3)), ("set", "x", (1, 0), 4), ("set", "x", (2, 0), 4), ("ask", "x", 5),
                ("choose", (6, 7)), ("say", (0, 1), 7), ("say", (0, 1), 7), ("stop",)]
        program = Program(3, ["x"], rows)
        self.assertEqual(brute.lengths(program)[6].keys(), {(1,), (2,)})
        self.assertIs(alike(program, 5, program, 6), True)

    def test_wide_programs_with_loops(self):
        for program in [dense_program(), dense_program(1), shifts()] + [random_program(n, 64, 6, 25) for n in range(8)]:
            found = classes(program)
            self.assertEqual(sorted(row for rows in found for row in rows), list(range(len(program))))
            numbers = least_numbers(program)
            for rows in found:
                self.assertEqual(len({numbers[row] for row in rows}), 1)
                for row in rows:
                    self.assertIs(alike(program, rows[0], varied(program, 3), row), True)
            for rows, others in zip(found, found[1:]):
                self.assertIs(alike(program, rows[-1], program, others[0]), False)

    def test_many_pairs(self):
        rows = [("say", (1, 2, 3, 4, 5, 6, 7), 5 * at + 1) if k == 0 else ("ask", "abcdef"[(at + k) % 6], 5 * at + 2)
                if k == 1 else ("set", "abcdef"[at], (k, 2, 4, 6, 8, 1, 3), 5 * at + k + 1) if k < 4 else
                ("choose", tuple(5 * to for to in range(5))) for at in range(5) for k in range(5)]
        program = Program(64, list("abcdef"), rows)
        found = classes(program)
        for rows in found:
            self.assertEqual(len({row % 5 for row in rows}), 1)
        self.assertEqual(found, classes(varied(program, 1)))


class Arguments(unittest.TestCase):
    def test_no_row(self):
        for bad in no_integers() + [-1, 5, 10 ** 30]:
            for row, spot in ((bad, 0), (0, bad), (bad, None)):
                with self.assertRaises(NoRow) as caught:
                    alike(double(), row, double(7), spot)
                self.assertIs(caught.exception.row, bad)
        with self.assertRaises(NoRow) as caught:
            alike(double(), 5, double(), 6)
        self.assertEqual(caught.exception.row, 5)
        with self.assertRaises(NoRow) as caught:
            alike(double(), 4, say_or_say(), 5)
        self.assertEqual(caught.exception.row, 5)

    def test_lists_are_new(self):
        program = say_or_say()
        found = classes(program)
        found[0].append(1)
        found.clear()
        self.assertEqual(classes(program), [[0], [1], [2, 3], [4]])


if __name__ == "__main__":
    unittest.main()
