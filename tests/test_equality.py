"""Equal programs: points 2, 3 and 51, and the promise EQUAL."""

import unittest

from leastkeep.equality import apart
from leastkeep.errors import NotOver
from leastkeep.programs import Program
from leastkeep.runs import run
from tests import brute
from tests.samples import (changed_program, dense_program, double, double_code, odd_values, random_program, shifts,
                           varied)


def least_run_apart(one, other):
    """The least length of a run on which two programs say different numbers, or None: all states are gone through."""
    start = (0, (0,) * len(one.variables), (0,) * len(other.variables))
    seen = {start}
    layer = [start]
    length = 0
    while layer:
        length += 1
        ahead = []
        for row, state, second in layer:
            exits, said = brute.step(one, row, state)
            others, told = brute.step(other, row, second)
            if said != told:
                return length
            for (_, to, new), (_, _, new_second) in zip(exits, others):
                if (to, new, new_second) not in seen:
                    seen.add((to, new, new_second))
                    ahead.append((to, new, new_second))
        layer = ahead
    return None


def turned(program):
    """The program with its variables in another order; None where it looks at them."""
    if any(item[0] == "look" for item in program.rows):
        return None
    rows = [(item[0], item[1], item[2][:1] + item[2][:0:-1], item[3]) if item[0] == "set" else
            (item[0], item[1][:1] + item[1][:0:-1], item[2]) if item[0] == "say" else item for item in program.rows]
    return Program(program.width, program.variables[::-1], rows)


class Apart(unittest.TestCase):
    def check_apart(self, one, other, length=None):
        found = apart(one, other)
        self.assertIs(type(found), tuple)
        self.assertNotEqual(run(one, found)[2], run(other, found)[2])
        self.assertEqual(run(one, found[:-1])[2], run(other, found[:-1])[2])
        if length is not None:
            self.assertEqual(len(found), length)

    def test_examples(self):
        rows = list(double().rows)
        rows[3] = ("say", (3, 2, 0), 2)
        self.assertIsNone(apart(double(), Program(8, ["x", "y"], rows)))
        rows[3] = ("say", (4, 2, 0), 2)
        self.check_apart(double(), Program(8, ["x", "y"], rows), 4)

    def test_by_name(self):
        self.assertIsNone(apart(other=double(), one=double()))

    def test_one_number_changed(self):
        told = [0, 0]
        for seed in range(400):
            program = random_program(seed, size=1 + seed % 2)
            other = changed_program(program, seed)
            length = least_run_apart(program, other)
            told[length is None] += 1
            for one, two in ((program, other), (other, program)):
                if length is None:
                    self.assertIsNone(apart(one, two))
                else:
                    self.check_apart(one, two, length)
        self.assertGreater(min(told), 80)

    def test_the_same_said_otherwise(self):
        for seed in range(150):
            program = random_program(seed)
            other = Program(program.width, ["u", "v", "w"][:len(program.variables)], [
                item[:1] + ({"x": "u", "y": "v", "z": "w"}[item[1]],) + item[2:] if item[0] in ("set", "ask") else item
                for item in program.rows])
            self.assertIsNone(apart(program, other))
            if turned(program) is not None:
                self.assertIsNone(apart(program, turned(program)))

    def test_relations_are_added(self):
        for seed in range(150):
            program = random_program(seed)
            self.assertIsNone(apart(program, varied(program, seed)))

    def test_unlike_numbers_of_variables(self):
        one = Program(8, ["x"], [("ask", "x", 1), ("set", "x", (3, 2), 2), ("say", (1, 5), 3), ("stop",)])
        two = Program(8, ["a", "b", "c"], [("ask", "b", 1), ("set", "c", (9, 0, 7, 0), 2), ("say", (16, 77, 10, 0), 3),
                                           ("stop",)])
        self.assertIsNone(apart(one, two))
        self.assertIsNone(apart(two, one))
        rows = list(two.rows)
        rows[2] = ("say", (16, 77, 9, 1), 3)
        self.check_apart(one, Program(8, two.variables, rows), 3)
        looking = Program(8, ["x"], [("ask", "x", 1), ("set", "x", (16, 10), 2), ("look", 3), ("stop",)])
        self.assertIsNone(apart(one, looking))
        self.assertIsNone(apart(looking, two))

    def test_what_no_run_shows(self):
        one = Program(8, ["x"], [("choose", (1, 2)), ("say", (0, 1), 0), ("stop",), ("say", (1, 1), 0)])
        two = Program(8, ["x"], [("choose", (1, 2)), ("say", (0, 9), 0), ("stop",), ("say", (2, 0), 0)])
        self.assertIsNone(apart(one, two))

    def test_a_factor_that_shows_in_one_bit_alone(self):
        for width in (1, 8, 64):
            half = 2 ** (width - 1)
            one = Program(width, ["x"], [("ask", "x", 1), ("say", (0, 1), 0)])
            self.check_apart(one, Program(width, ["x"], [("ask", "x", 1), ("say", (0, 1 + half), 0)]), 2)
            self.check_apart(one, Program(width, ["x"], [("ask", "x", 1), ("say", (half, 1), 0)]), 2)

    def test_a_long_shortest_run(self):
        rows = list(shifts().rows)
        rows[5] = ("set", "a", (2,) + (0,) * 6, 6)
        self.check_apart(shifts(), Program(64, shifts().variables, rows), 43)
        rows[5] = ("set", "a", (2 ** 64 + 1,) + (0,) * 6, 6)
        self.assertIsNone(apart(shifts(), Program(64, shifts().variables, rows)))

    def test_wide_programs_with_loops(self):
        told = [0, 0]
        for seed in range(60):
            program = dense_program(seed=seed) if seed < 3 else random_program(seed, 64, 6, 25)
            other = changed_program(program, seed)
            self.assertIsNone(apart(program, program))
            told[apart(program, other) is None] += 1
            if apart(program, other) is not None:
                self.check_apart(program, other)
        self.assertGreater(min(told), 10)


class OneGraph(unittest.TestCase):
    program = Program(8, ["x", "y"], [("ask", "x", 1), ("set", "y", (0, 1, 1), 2), ("choose", (3, 4, 5)),
                                      ("say", (0, 1, 0), 4), ("look", 5), ("stop",)])

    def not_over(self, row, changed, width=8, variables=("x", "y")):
        rows = [changed.get(at, item) for at, item in enumerate(self.program.rows)]
        other = Program(width, variables, rows)
        for one, two in ((self.program, other), (other, self.program)):
            with self.assertRaises(NotOver) as caught:
                apart(one, two)
            self.assertEqual(caught.exception.row, row)

    def test_width_and_number_of_rows(self):
        self.not_over(-1, {}, 7)
        self.not_over(-1, {0: ("stop",)}, 9)
        for rows in (self.program.rows + (("stop",),), [("stop",)], [("stop",)] * 25):
            with self.assertRaises(NotOver) as caught:
                apart(self.program, Program(8, ["x", "y"], rows))
            self.assertEqual(caught.exception.row, -1)

    def test_rows_that_differ(self):
        for row, item in ((0, ("ask", "x", 2)), (0, ("set", "x", (0, 0, 0), 1)), (0, ("choose", (1,))),
                          (1, ("say", (0, 0, 0), 2)), (1, ("choose", (2,))), (1, ("look", 2)), (2, ("choose", (3, 5, 4))),
                          (2, ("choose", (3, 4))), (2, ("choose", (3, 4, 5, 5))), (2, ("stop",)),
                          (3, ("say", (0, 0, 0), 5)), (3, ("look", 4)), (3, ("set", "x", (0, 0, 0), 4)),
                          (4, ("say", (0, 1, 0), 5)), (5, ("look", 5)), (5, ("choose", (5,)))):
            self.not_over(row, {row: item})
        self.not_over(3, {3: ("stop",), 4: ("stop",)})

    def test_what_may_differ(self):
        rows = [("ask", "u", 1), ("set", "w", (5, 1, 7), 2)] + list(self.program.rows[2:])
        self.assertIsNotNone(apart(self.program, Program(8, ["u", "w"], rows)))

    def test_looks_at_other_numbers_of_variables(self):
        one = Program(8, ["x", "y"], [("look", 1), ("stop",)])
        with self.assertRaises(NotOver) as caught:
            apart(one, Program(8, ["x"], one.rows))
        self.assertEqual(caught.exception.row, 0)
        self.assertIsNone(apart(Program(8, ["x"], one.rows), Program(8, ["y", "x"], [("say", (0, 1, 1), 1), ("stop",)])))

    def test_values_that_are_no_program(self):
        for bad in odd_values() + [double_code(), "", "x", 0, [], ()]:
            if isinstance(bad, Program):
                continue
            with self.assertRaises(NotOver) as caught:
                apart(double(), bad)
            self.assertEqual(caught.exception.row, -1)


if __name__ == "__main__":
    unittest.main()
