"""Codes that follow a program, and rows that are joined: points 2, 3, 56 and 57."""

import itertools
import random
import unittest

from leastkeep.alike import classes
from leastkeep.behaviours import least_numbers
from leastkeep.codes import Code, run_code
from leastkeep.compiling import compiled
from leastkeep.errors import KeepError, NotOver
from leastkeep.hulls import all_hulls
from leastkeep.joining import joined, strays
from leastkeep.judging import judge
from leastkeep.programs import Program
from leastkeep.runs import run
from leastkeep.splits import split_code
from tests import brute
from tests.samples import (changed_code, changed_graph, dense_program, double, double_code, doubled_code, moved_code,
                           odd_values, once, padded_code, plain_code, random_automaton, random_code, random_program,
                           shifts)
from tests.test_compiling import runs_of

STOP = ("stop", (), (), ())


def say_or_say():
    return Program(8, ["x"], [("ask", "x", 1), ("choose", (2, 3)), ("say", (0, 1), 4), ("say", (7, 3), 4), ("stop",)])


def is_run(asked, value, numbers):
    """What is said on a run, or None for a tuple that is none."""
    try:
        return asked(value, numbers)[2]
    except KeepError:
        return None


class Strays(unittest.TestCase):
    def check_stray(self, program, code, length=None):
        found = strays(program, code)
        self.assertIs(type(found), tuple)
        said, told = is_run(run, program, found), is_run(run_code, code, found)
        self.assertTrue(said is not None or told is not None)
        self.assertNotEqual(said, told)
        ahead = is_run(run, program, found[:-1])
        self.assertIsNotNone(ahead)
        self.assertEqual(ahead, is_run(run_code, code, found[:-1]))
        if length is not None:
            self.assertEqual(len(found), length)

    def check(self, program, code):
        length = brute.least_stray(program, code)
        if length is None:
            self.assertIsNone(strays(program, code))
            return True
        self.check_stray(program, code, length)
        return False

    def test_examples(self):
        self.assertIsNone(strays(say_or_say(), joined(say_or_say())))
        self.assertIsNone(strays(code=joined(program=say_or_say()), program=say_or_say()))

    def test_codes_that_follow(self):
        for seed in range(60):
            program = random_program(seed, size=1 + seed % 2)
            for code in (compiled(program), plain_code(program, 1, seed), joined(program),
                         split_code(program, random_automaton(program, seed))[0]):
                self.assertTrue(self.check(program, code))
                self.assertTrue(self.check(program, moved_code(code, seed)))

    def test_changed_codes(self):
        told = [0, 0]
        for seed in range(250):
            program = random_program(seed, size=1 + seed % 2)
            code = [compiled, joined, plain_code][seed % 3](program)
            changed = [changed_code, changed_graph][seed // 3 % 2](code, seed)
            told[self.check(program, changed)] += 1
            told[self.check(program, moved_code(changed, seed))] += 1
            self.check(program, random_code(program, seed))
            self.check(program, doubled_code(program))
        self.assertGreater(min(told), 60)

    def test_codes_of_other_programs(self):
        told = [0, 0]
        for seed in range(200):
            width = 1 + seed % 2
            one = random_program(seed, width, 1, 2 + seed % 4)
            for other in (random_program(seed + 1, width, 1), random_program(seed + 7, width, 2, 2)):
                told[self.check(one, compiled(other))] += 1
        self.assertGreater(told[0], 300)

    def test_codes_on_short_runs(self):
        for seed in range(30):
            program = random_program(seed)
            for code in (joined(program), moved_code(compiled(program), seed)):
                for numbers in itertools.islice(runs_of(program, 5, (0, 1, -3)), 200):
                    self.assertEqual(run(program, numbers)[2], run_code(code, numbers)[2])

    def test_an_ask_and_a_choose(self):
        for width in (1, 2, 8):
            for many in range(1, 7):
                asking = Program(width, ["x"], [("ask", "x", 0)])
                choosing = Program(width, ["x"], [("choose", (0,) * many)])
                for program, code in ((asking, Code(width, [0], [("choose", (0,) * many, (), ((),) * many)], ())),
                                      (choosing, Code(width, [0], [("ask", (0,), (), ((),))], ()))):
                    self.check_stray(program, code, 1)

    def test_an_ask_and_other_rows(self):
        kinds = [(("ask", "x", 1), ("ask", (1,), (), ((),))), (("set", "x", (0, 0), 1), ("go", (1,), (), ((),))),
                 (("choose", (1,)), ("choose", (1,), (), ((),))), (("stop",), STOP),
                 (("choose", (1, 1)), ("choose", (1, 1), (), ((), ()))),
                 (("choose", (1, 1, 1)), ("choose", (1, 1, 1), (), ((), (), ())))]
        for at, (item, _) in enumerate(kinds):
            for spot, (_, other) in enumerate(kinds):
                program = Program(8, ["x"], [item, ("stop",)])
                code = Code(8, [0, 0], [other, STOP], ())
                if at == spot or {at, spot} == {1, 2}:
                    self.assertIsNone(strays(program, code))
                else:
                    self.check_stray(program, code, 1)

    def test_a_run_of_one_alone_behind_a_loop(self):
        program = Program(8, ["x"], [("choose", (0, 1)), ("stop",)])
        rows = [("choose", (at + 1, 6), (), ((), ())) for at in range(5)] + [("choose", (5, 0), (), ((), ())), STOP]
        self.check_stray(program, Code(8, [0] * 7, rows, ()), 7)

    def test_the_shorter_one_of_two_strays(self):
        program = Program(8, ["x"], [("choose", (1, 4)), ("set", "x", (1, 1), 2), ("say", (0, 1), 3), ("stop",),
                                     ("look", 5), ("stop",)])
        rows = [("choose", (1, 4), (), ((), ())), ("go", (2,), (), ((),)), ("go", (3,), ((1,),), ((),)), STOP,
                ("go", (5,), ((0,),), ((),)), STOP]
        self.assertIsNone(strays(program, Code(8, [0] * 6, rows, ())))
        rows[3] = ("go", (3,), (), ((),))
        self.check_stray(program, Code(8, [0] * 6, rows, ()), 4)
        rows[2] = ("go", (3,), ((2,),), ((),))
        self.check_stray(program, Code(8, [0] * 6, rows, ()), 3)
        rows[4] = ("go", (5,), ((1,),), ((),))
        self.check_stray(program, Code(8, [0] * 6, rows, ()), 2)
        rows[0] = ("choose", (1, 4, 0), (), ((), (), ()))
        self.assertEqual(strays(program, Code(8, [0] * 6, rows, ())), (2,))

    def test_forms_at_a_stop_row_are_never_said(self):
        program = Program(8, ["x"], [("look", 1), ("stop",)])
        code = Code(8, [0, 2], [("go", (1,), ((0,),), (((1,), (2,)),)), ("stop", (), ((1, 2, 3), (4, 5, 6)), ())], ())
        self.assertIsNone(strays(program, code))
        self.assertIsNone(strays(Program(8, ["x"], [("stop",)]), Code(8, [1], [("stop", (), ((1, 1),), ())], (5,))))

    def test_numbers_of_said_numbers(self):
        program = Program(8, ["x"], [("look", 1), ("stop",)])
        for says in ((), ((0,), (0,))):
            self.check_stray(program, Code(8, [0, 0], [("go", (1,), says, ((),)), STOP], ()), 1)
        silent = Program(8, ["x"], [("ask", "x", 0)])
        self.check_stray(silent, Code(8, [0], [("ask", (0,), ((0,),), ((),))], ()), 1)
        self.check_stray(silent, Code(8, [0, 0], [("ask", (1,), (), ((),)), ("ask", (0,), ((0,),), ((),))], ()), 2)

    def test_right_codes_follow(self):
        for seed in range(100):
            program = random_program(seed)
            code = changed_code(plain_code(program, seed % 2, seed), seed)
            self.assertIs(judge(program, code) is None, strays(program, code) is None)
        self.assertIsNone(strays(double(), double_code()))
        self.check_stray(double(), double_code(4), 4)

    def test_codes_with_few_rows(self):
        three = Program(8, ["x"], [("say", (5, 0), 1), ("say", (5, 1), 2), ("set", "x", (0, 1), 0)])
        self.check_stray(three, Code(8, [0], [("go", (0,), ((5,),), ((),))], ()), 3)
        two = Program(8, ["x"], [("say", (5, 0), 1), ("say", (5, 1), 0)])
        self.assertIsNone(strays(two, Code(8, [0], [("go", (0,), ((5,),), ((),))], ())))

    def test_wide_codes_with_many_rows(self):
        program = dense_program()
        automaton = random_automaton(program, 3, 8)
        code, _ = split_code(program, automaton)
        self.assertGreater(len(code.rows), 100)
        self.assertIsNone(strays(program, code))
        rng = random.Random(1)
        for junk, zeros in ((0, 0), (58, 0), (0, 58), (20, 38)):
            wide = padded_code(code, junk, zeros)
            self.assertIsNone(strays(program, wide))
            rows = list(wide.rows)
            at = rng.choice([row for row, item in enumerate(rows) if item[2]])
            kind, nexts, says, changes = rows[at]
            rows[at] = (kind, nexts, ((says[0][0] + 1,) + says[0][1:],), changes)
            self.check_stray(program, Code(64, wide.counts, rows, wide.start))

    def test_two_hundred_rows(self):
        program = Program(64, ["a", "b", "c"], [("say", (7, 1, 2, 3), (at + 1) % 25) for at in range(25)])
        rng = random.Random(2)
        forms = tuple(tuple(rng.getrandbits(64) for _ in range(33)) for _ in range(32))
        rows = [("go", ((at + 1) % 199,), ((7,) + (0,) * 32,), (forms,)) for at in range(199)]
        code = Code(64, [32] * 199, rows, forms[0][1:])
        self.assertIsNone(strays(program, code))
        rows[198] = ("go", (0,), ((8,) + (0,) * 32,), (forms,))
        self.check_stray(program, Code(64, [32] * 199, rows, code.start), 199)

    def test_not_over(self):
        for code in [double_code(), compiled(double(9)), None] + odd_values():
            if not isinstance(code, Code) or code.width != 9:
                with self.assertRaises(NotOver) as caught:
                    strays(double(9), code)
                self.assertEqual(caught.exception.row, -1)


class Joined(unittest.TestCase):
    def check_joined(self, program):
        code = joined(program)
        self.assertIs(type(code), Code)
        self.assertIsNone(strays(program, code))
        numbers = least_numbers(program)
        hulls = all_hulls(program)
        reached = [rows for rows in classes(program) if hulls[rows[0]] is not None]
        self.assertEqual(sorted(code.counts), sorted(numbers[rows[0]] for rows in reached))
        return code

    def test_examples(self):
        code = self.check_joined(say_or_say())
        self.assertEqual(sorted(code.counts), [0, 0, 1, 1])

    def test_small_programs(self):
        fewer = 0
        for seed in range(150):
            program = random_program(seed)
            code = self.check_joined(program)
            fewer += len(code.rows) < len(program)
            if len(program.variables) < 3:
                self.assertIsNone(brute.least_stray(program, code))
        self.assertGreater(fewer, 50)

    def test_a_program_and_its_copies(self):
        for seed in range(40):
            program = random_program(seed)
            many = len(program)
            rng = random.Random(seed)
            rows = []
            for copy in range(2):
                for item in program.rows:
                    def to(row):
                        return row + many * rng.randrange(2)
                    rows.append(item if item[0] == "stop" else ("choose", tuple(map(to, item[1])))
                                if item[0] == "choose" else item[:-1] + (to(item[-1]),))
            self.check_joined(Program(program.width, program.variables, rows))

    def test_a_choose_row_with_one_label(self):
        rows = [("ask", "x", 1), ("choose", (2, 4)), ("choose", (3,)), ("say", (0, 1), 6), ("set", "x", (1, 3), 5),
                ("say", (0, 2), 6), ("stop",)]
        program = Program(8, ["x"], rows)
        self.assertEqual(classes(program), [[0], [1], [2], [3], [4], [5], [6]])
        rows[5] = ("say", (0, 1), 6)
        program = Program(8, ["x"], rows)
        self.assertEqual(classes(program), [[0], [1], [2, 4], [3, 5], [6]])
        self.check_joined(program)
        rows[1] = ("choose", (4, 2))
        self.check_joined(Program(8, ["x"], rows))
        self.assertIsNone(strays(Program(8, ["x"], rows), compiled(Program(8, ["x"], rows))))

    def test_alike_rows_that_lead_to_unlike_rows(self):
        rows = [("choose", (1, 2, 5)), ("set", "x", (5, 0), 3), ("set", "x", (5, 0), 4), ("say", (0, 1), 6),
                ("say", (0, 1), 6), ("ask", "x", 4), ("stop",)]
        program = Program(8, ["x"], rows)
        self.assertEqual(classes(program), [[0], [1, 2], [3], [4], [5], [6]])
        self.assertEqual(sorted(self.check_joined(program).counts), [0, 0, 0, 0, 0, 1])
        rows[1], rows[2] = rows[2], rows[1]
        self.assertEqual(sorted(self.check_joined(Program(8, ["x"], rows)).counts), [0, 0, 0, 0, 0, 1])

    def test_rows_that_no_run_reaches_have_no_row(self):
        program = Program(8, ["x"], [("stop",), ("ask", "x", 2), ("look", 1), ("stop",)])
        self.assertEqual(len(self.check_joined(program).rows), 1)

    def test_loops_become_one_row(self):
        program = Program(8, ["x"], [("say", (5, 9), 1), ("say", (5, 0), 2), ("say", (5, 1), 0)])
        code = self.check_joined(program)
        self.assertEqual((code.counts, code.rows), ((0,), (("go", (0,), ((5,),), ((),)),)))

    def test_registers_turn_over(self):
        rows = [("ask", "x", 1), ("ask", "y", 2), ("choose", (3, 5)), ("say", (0, 1, 0), 4), ("say", (1, 0, 3), 7),
                ("say", (9, 0, 5), 6), ("say", (0, 7, 1), 7), ("stop",)]
        code = self.check_joined(Program(64, ["x", "y"], rows))
        self.assertEqual(sorted(code.counts), [0, 0, 1, 1, 2, 2])

    def test_wide_programs_with_loops(self):
        for program in [dense_program(), dense_program(2), shifts(), once(), double()]:
            self.check_joined(program)
        for seed in range(15):
            self.check_joined(random_program(seed, 64, 6, 25))

    def test_equal_programs_have_equal_codes(self):
        for seed in range(10):
            program = random_program(seed)
            self.assertEqual(joined(program), joined(Program(program.width, list(program.variables), list(program.rows))))


if __name__ == "__main__":
    unittest.main()
