"""The judge: points 2, 3, 43 and 44, and the promise JUDGE."""

import unittest

from leastkeep.codes import Code, run_code
from leastkeep.errors import NotOver
from leastkeep.judging import judge
from leastkeep.programs import Program
from leastkeep.runs import run
from tests import brute
from tests.samples import (changed_code, double, double_code, once, plain_code, random_program, shifts, twice)

STOP = ("stop", (), (), ())


class Judging(unittest.TestCase):
    def check_wrong(self, program, code, length=None):
        found = judge(program, code)
        self.assertIs(type(found), tuple)
        self.assertNotEqual(run(program, found)[2], run_code(code, found)[2])
        self.assertEqual(run(program, found[:-1])[2], run_code(code, found[:-1])[2])
        if length is not None:
            self.assertEqual(len(found), length)

    def test_examples(self):
        self.assertIsNone(judge(double(), double_code()))
        self.check_wrong(double(), double_code(4), 4)
        self.assertIsNone(judge(once(), twice()))
        self.assertIsNone(judge(code=twice(), program=once()))

    def test_right_codes(self):
        for seed in range(120):
            program = random_program(seed)
            for more in (0, 1, 3):
                self.assertIsNone(judge(program, plain_code(program, more, seed)))

    def test_changed_codes_against_all_runs(self):
        wrong = 0
        for seed in range(400):
            program = random_program(seed, size=1 + seed % 2)
            code = changed_code(plain_code(program, seed % 2, seed), seed)
            length = brute.least_run_apart(program, code)
            if length is None:
                self.assertIsNone(judge(program, code))
            else:
                wrong += 1
                self.check_wrong(program, code, length)
        self.assertGreater(wrong, 60)

    def test_wide_codes(self):
        wrong = 0
        for seed in range(60):
            program = random_program(seed, width=64, size=6, many=25)
            code = plain_code(program, 4, seed)
            self.assertIsNone(judge(program, code))
            other = changed_code(code, seed)
            if judge(program, other) is not None:
                wrong += 1
                self.check_wrong(program, other)
        self.assertGreater(wrong, 10)

    def test_a_long_shortest_run(self):
        rows = list(plain_code(shifts()).rows)
        keep = rows[5][3]
        rows[5] = ("go", (6,), (), (((2, 0, 0, 0, 0, 0, 0),) + keep[0][1:],))
        self.check_wrong(shifts(), Code(64, [6] * 9, rows, (0,) * 6), 43)
        rows[5] = ("go", (6,), (), (((1 + 2 ** 64, 0, 0, 0, 0, 0, 0),) + keep[0][1:],))
        self.assertIsNone(judge(shifts(), Code(64, [6] * 9, rows, (2 ** 64,) * 6)))

    def test_the_start(self):
        rows = plain_code(shifts()).rows
        for place in range(5):
            start = tuple(2 ** 63 if at == place else 0 for at in range(6))
            self.check_wrong(shifts(), Code(64, [6] * 9, rows, start), 7 * (5 - place) + 1)
        self.assertIsNone(judge(shifts(), Code(64, [6] * 9, rows, (0,) * 5 + (1,))))

    def test_a_factor_that_shows_in_one_number_alone(self):
        for width in (1, 8, 64):
            half = 2 ** (width - 1)
            program = Program(width, ["x"], [("ask", "x", 1), ("say", (0, 1), 0)])
            code = Code(width, [0, 1], [("ask", (1,), (), (((0, 1 + half),),)), ("go", (0,), ((0, 1),), ((),))], ())
            self.check_wrong(program, code, 2)
            code = Code(width, [0, 1], [("ask", (1,), (), (((half, 1),),)), ("go", (0,), ((0, 1),), ((),))], ())
            self.check_wrong(program, code, 2)

    def test_what_no_run_shows_does_not_matter(self):
        program = Program(8, ["x"], [("choose", (1, 2)), ("say", (0, 1), 0), ("stop",), ("say", (1, 1), 0)])
        code = Code(8, [0, 0, 0, 0], [("choose", (1, 2), (), ((), ())), ("go", (0,), ((0,),), ((),)), STOP,
                                      ("go", (0,), ((99,),), ((),))], ())
        self.assertIsNone(judge(program, code))

    def test_look_says_all_variables_in_order(self):
        program = Program(8, ["x", "y"], [("ask", "x", 1), ("look", 2), ("stop",)])
        for says, length in ((((0, 1), (0, 0)), None), (((0, 0), (0, 1)), 2), (((0, 1), (0, 1)), 2)):
            code = Code(8, [0, 1, 0], [("ask", (1,), (), (((0, 1),),)), ("go", (2,), says, ((),)), STOP], ())
            if length is None:
                self.assertIsNone(judge(program, code))
            else:
                self.check_wrong(program, code, length)

    def test_equal_arguments(self):
        self.assertEqual(judge(double(), double_code(4)), judge(double(), double_code(4 + 256)))


class Over(unittest.TestCase):
    program = Program(8, ["x", "y"], [("ask", "x", 1), ("set", "y", (0, 1, 1), 2), ("choose", (3, 4, 5)),
                                      ("say", (0, 1, 0), 4), ("look", 5), ("stop",)])
    rows = [("ask", (1,), (), ((),)), ("go", (2,), (), ((),)), ("choose", (3, 4, 5), (), ((), (), ())),
            ("go", (4,), ((0,),), ((),)), ("go", (5,), ((0,), (0,)), ((),)), STOP]

    def not_over(self, row, changed, width=8):
        rows = [changed.get(at, item) for at, item in enumerate(self.rows)]
        code = Code(width, [0] * 6, rows, ())
        with self.assertRaises(NotOver) as caught:
            judge(self.program, code)
        self.assertEqual(caught.exception.row, row)

    def test_over(self):
        self.assertIsNotNone(judge(self.program, Code(8, [0] * 6, self.rows, ())))

    def test_width_and_number_of_rows(self):
        self.not_over(-1, {}, 7)
        self.not_over(-1, {0: STOP}, 9)
        for rows in (self.rows + [STOP], [("go", (0,), (), ((),))] * 5, [STOP] * 200):
            with self.assertRaises(NotOver) as caught:
                judge(self.program, Code(8, [0] * len(rows), rows, ()))
            self.assertEqual(caught.exception.row, -1)

    def test_next_rows(self):
        self.not_over(0, {0: ("ask", (2,), (), ((),))})
        self.not_over(1, {1: ("go", (3,), (), ((),))})
        for nexts in ((3, 5, 4), (3, 4), (3, 4, 5, 5), (3, 4, 4)):
            self.not_over(2, {2: ("choose", nexts, (), ((),) * len(nexts))})
        self.not_over(3, {3: ("go", (5,), ((0,),), ((),))})

    def test_kinds(self):
        self.not_over(0, {0: ("go", (1,), (), ((),))})
        self.not_over(0, {0: ("choose", (1,), (), ((),))})
        self.not_over(1, {1: ("ask", (2,), (), ((),))})
        self.not_over(1, {1: ("choose", (2,), (), ((),))})
        self.not_over(3, {3: STOP})
        self.not_over(5, {5: ("go", (5,), (), ((),))})

    def test_numbers_of_forms(self):
        one, two = ((0,),), ((0,), (0,))
        self.not_over(0, {0: ("ask", (1,), one, ((),))})
        self.not_over(1, {1: ("go", (2,), one, ((),))})
        self.not_over(2, {2: ("choose", (3, 4, 5), one, ((), (), ()))})
        for says in ((), two):
            self.not_over(3, {3: ("go", (4,), says, ((),))})
        for says in ((), one, one + two):
            self.not_over(4, {4: ("go", (5,), says, ((),))})
        self.not_over(5, {5: ("stop", (), one, ())})

    def test_the_first_row_that_differs(self):
        self.not_over(3, {3: STOP, 4: STOP})
        self.not_over(1, {1: STOP, 5: ("stop", (), ((0,),), ())})


if __name__ == "__main__":
    unittest.main()
