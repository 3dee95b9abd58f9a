"""Codes that trust guesses: points 2, 3 and 66."""

import itertools
import random
import unittest

from leastkeep.behaviours import least_numbers
from leastkeep.codes import Code, run_code
from leastkeep.compiling import compiled
from leastkeep.doubts import doubt
from leastkeep.errors import NoGuess, NoGuessCode, NoRun, Refused
from leastkeep.guesses import guess_numbers
from leastkeep.guessing import GuessCode, guess_code, run_guessed
from leastkeep.judging import judge
from leastkeep.programs import Program
from leastkeep.runs import run
from tests import brute, brute_guesses
from tests.samples import (asking_program, dense_program, equal_guesses, no_integers, no_sequences, odd_values, once, pair,
                           random_guesses, random_program, twice)
from tests.test_compiling import runs_of

TRUST = [(2, (0, 1, -1))]
STOP = ("stop", (), (), ())


def looking(form=(0, 1), backs=((0, 2),), look=None):
    """A GuessCode by hand: it asks for r, looks at it, and says 1, or what is told else, 2 r, as plain code."""
    quick = Code(8, [0, 0, 0, 1], [("ask", (3,), (), (((0, 1),),)), ("go", (2,), ((1,),), ((),)), STOP,
                                   look or ("go", (1,), (form,), ((),))], ())
    return GuessCode(quick, twice(), [backs])


def machine(code, numbers):
    """What run_guessed tells for a run, step by step."""
    many = len(code.plain.rows)
    now, row, registers, failed, said = code.quick, 0, code.quick.start, None, []
    for number in numbers:
        changes, told = brute.code_step(now, row, registers)
        said += told
        kind, nexts, _, _ = now.rows[row]
        registers = changes[number % 2 ** now.width if kind == "ask" else number]
        row = nexts[number if kind == "choose" else 0]
        while failed is None and row >= many:
            changes, told = brute.code_step(now, row, registers)
            if told == [0]:
                registers, row = changes[0], now.rows[row][1][0]
                continue
            failed = row - many
            registers = tuple(brute.value_of(form, registers, now.width) for form in code.backs[failed])
            while row >= many:
                row = now.rows[row][1][0]
            now = code.plain
    return row, registers, said, failed


class Making(unittest.TestCase):
    def test_attributes(self):
        code = looking()
        self.assertEqual((code.plain, code.backs), (twice(), (((0, 2),),)))
        self.assertEqual(code.quick.rows[3], ("go", (1,), ((0, 1),), ((),)))
        found = GuessCode(code.quick, code.plain, ((((256, -254)),),))
        self.assertEqual((found, found.backs), (code, (((0, 2),),)))

    def test_no_looks(self):
        for backs in ([], ()):
            code = GuessCode(twice(), twice(), backs)
            self.assertEqual((code.quick, code.plain, code.backs), (twice(), twice(), ()))
            self.assertEqual(run_guessed(code, [7, 0]), (2, (), [14], None))

    def test_equality(self):
        code = looking()
        self.assertEqual(code, looking())
        for other in (looking((1, 1)), looking(backs=((0, 3),)), GuessCode(twice(), twice(), ()),
                      GuessCode(code.quick, Code(8, [0, 1, 0], twice().rows[:1] + (("go", (2,), ((1, 1),), ((),)), STOP), ()),
                                code.backs)):
            self.assertFalse(code == other)
            self.assertTrue(code != other)
        for other in odd_values() + [0, "", (code.quick, code.plain, code.backs)]:
            self.assertEqual(code == other, False)
            self.assertEqual(other == code, False)

    def test_looks_behind_looks(self):
        """A look may lead to a later one, or to any row of plain; the last row told is that of the registers."""
        rows = [("ask", (4,), (), (((0, 1),),)), STOP, STOP]
        quick = Code(8, [0, 0, 0, 0, 1, 2, 1], [rows[0], STOP, STOP, ("go", (2,), ((0,),), ((),)),
                                                ("go", (6,), ((0, 1),), (((0, 1),),)), ("go", (1,), ((0, 1, 0),), ((),)),
                                                ("go", (1,), ((-1, 1),), ((),))], ())
        plain = Code(8, [1, 2, 3], [("stop", (), (), ())] * 3, (0,))
        zeros = ((0,),) * 3
        good = [zeros, ((0, 1), (1, 0)), ((0, 0, 0), (1, 1, 1)), [(5, 5), (6, 6)]]
        code = GuessCode(quick, plain, good[:3] + [tuple(good[3])])
        self.assertEqual(run_guessed(code, [7]), (1, (7, 1), [], 1))
        self.assertEqual(run_guessed(code, [0]), (1, (5, 6), [], 3))
        for at in range(4):
            for bad in (good[at][1:], tuple(good[at]) + ((0,),), list(good[at])):
                backs = good[:3] + [tuple(good[3])]
                backs[at] = bad
                with self.assertRaises(NoGuessCode) as caught:
                    GuessCode(quick, plain, backs)
                self.assertEqual((caught.exception.part, caught.exception.index), ("backs", at))

    def test_the_greatest_ones(self):
        looks = [("go", (row + 1 if row < 199 else 0,), ((0,),), ((),)) for row in range(1, 200)]
        code = GuessCode(Code(8, [0] * 200, [("go", (1,), (), ((),))] + looks, ()), Code(8, [0], [STOP], ()), [()] * 199)
        self.assertEqual(run_guessed(code, [0] * 50), (0, (), [], None))
        with self.assertRaises(NoRun):
            run_guessed(GuessCode(code.quick, code.plain, [()] * 199), [0] * 50 + [1])


class Wrong(unittest.TestCase):
    def no_code(self, quick, plain, backs, part, index):
        with self.assertRaises(NoGuessCode) as caught:
            GuessCode(quick, plain, backs)
        self.assertEqual((caught.exception.part, caught.exception.index), (part, index))

    def test_quick(self):
        for bad in odd_values() + [0, "", (), once()]:
            if type(bad) is not Code:
                self.no_code(bad, bad, bad, "quick", -1)
                self.no_code(bad, twice(), (), "quick", -1)

    def test_plain(self):
        for bad in odd_values() + [0, "", (), once()]:
            if type(bad) is not Code:
                self.no_code(looking().quick, bad, None, "plain", -1)
        self.no_code(looking().quick, Code(9, [0], [STOP], ()), None, "plain", -1)
        self.no_code(twice(), looking().quick, (), "plain", -1)
        self.no_code(Code(8, [0], [STOP], ()), Code(8, [0] * 2, [STOP] * 2, ()), None, "plain", -1)

    def test_looks(self):
        many = 3
        for look in [STOP, ("stop", (), ((0, 1),), ()), ("ask", (1,), ((0, 1),), ((),)), ("choose", (1,), ((0, 1),), ((),)),
                     ("go", (1,), (), ((),)), ("go", (1,), ((0, 1), (0, 1)), ((),)), ("go", (3,), ((0, 1),), (((0, 1),),))]:
            quick = Code(8, [0, 0, 0, 1], looking().quick.rows[:3] + (look,), ())
            self.no_code(quick, twice(), None, "quick", many)
        go = ("go", (5,), ((0,),), ((),))
        rows = looking().quick.rows[:1] + (STOP, STOP, ("go", (5,), ((0, 0),), ((),)), ("go", (2,), ((0,),), ((),)),
                                           ("go", (4,), ((0,),), ((),)))
        self.no_code(Code(8, [0, 0, 0, 1, 0, 0], rows, ()), twice(), None, "quick", 5)
        self.no_code(Code(8, [0, 0, 0, 1, 0, 0], rows[:4] + (STOP, go), ()), twice(), None, "quick", 4)

    def test_backs(self):
        quick = looking().quick
        for bad in no_sequences() + [[], (), [((0, 2),)] * 2, ((0, 2),) * 2]:
            self.no_code(quick, twice(), bad, "backs", -1)
        self.no_code(twice(), twice(), [()], "backs", -1)
        for bad in no_sequences() + [(), [(0, 2)], ((0, 2), (0, 2)), ((0,),), ((0, 2, 0),), ([0, 2],), (0, 2), ("ab",)]:
            self.no_code(quick, twice(), [bad], "backs", 0)
        for bad in no_integers():
            self.no_code(quick, twice(), (((0, bad),),), "backs", 0)
        three = Code(8, [0, 0, 0, 1, 1, 1], quick.rows[:3] + (quick.rows[3],) * 3, ())
        self.no_code(three, twice(), [((0, 2),), None, None], "backs", 1)
        self.no_code(three, twice(), (((0, 2),), ((5, 2),), ((0, 2), (0, 2))), "backs", 2)

    def test_no_run(self):
        code = looking()
        for bad in no_sequences():
            self.no_run(code, bad, -1)
        for bad in no_integers():
            self.no_run(code, [bad], 0)
            self.no_run(code, [0, bad], 1)
            self.no_run(code, [5, bad, bad], 1)
        for numbers in ([0, 1], [5, 1], [5, -1], [0, 0, 0], [5, 0, 0], (0, 0, None), (5, 0, None)):
            self.no_run(code, numbers, len(numbers) - 1)

    def no_run(self, code, numbers, index):
        with self.assertRaises(NoRun) as caught:
            run_guessed(code, numbers)
        self.assertEqual(caught.exception.index, index)

    def test_no_run_by_the_plain_code(self):
        """Where the plain code goes on, its rows tell which numbers fit."""
        quick = Code(8, [0, 0, 1], [("ask", (2,), (), (((0, 1),),)), ("go", (0,), (), ((),)), ("go", (1,), ((0, 1),), ((),))], ())
        plain = Code(8, [0, 1], [("choose", (0, 1), (), ((), ((0,),))), ("choose", (0, 1, 1), (), ((), ((0, 1),), ((1, 1),)))], ())
        code = GuessCode(quick, plain, [((0, 1),)])
        self.assertEqual(run_guessed(code, [0, 0, 0]), (1, (), [], None))
        self.assertEqual(run_guessed(code, [5, 2, 2, 1]), (1, (7,), [], 0))
        self.no_run(code, [0, 2], 1)
        self.no_run(code, [5, 3], 1)
        self.no_run(code, [5, 0, 5], 2)

    def test_it_raises_as_guess_numbers(self):
        for bad in no_sequences() + [TRUST * 7]:
            self.no_guess(bad, -1)
        for bad in no_sequences() + [(2, [0, 1, 1]), (6, (0, 1, 1))]:
            self.no_guess(TRUST + [bad], 1)
        with self.assertRaises(Refused) as caught:
            guess_code(pair(), TRUST + [(2, (1, 2, 0))])
        self.assertEqual(caught.exception.index, 1)

    def no_guess(self, guesses, index):
        with self.assertRaises(NoGuess) as caught:
            guess_code(pair(), guesses)
        self.assertEqual(caught.exception.index, index)


class Running(unittest.TestCase):
    def test_examples(self):
        code = guess_code(pair(), TRUST)
        self.assertEqual([run_guessed(code, numbers)[2:] for numbers in ([9, 9, 1, 0], [9, 5, 1, 0])], [([9], None), ([5], 0)])

    def test_by_hand(self):
        code = looking()
        self.assertEqual(run_guessed(code, []), (0, (), [], None))
        self.assertEqual(run_guessed(code, [0]), (1, (), [], None))
        self.assertEqual(run_guessed(code, [256, 0]), (2, (), [1], None))
        self.assertEqual(run_guessed(code, [5]), (1, (10,), [], 0))
        self.assertEqual(run_guessed(code, (5, 0)), (2, (), [10], 0))
        found = run_guessed(code, [5])
        self.assertEqual([type(part) for part in (found,) + found], [tuple, int, tuple, list, int])

    def test_beside_a_slow_machine(self):
        failed = 0
        for seed in range(60):
            program = asking_program(seed)
            guesses = equal_guesses(program, seed)
            try:
                code = guess_code(program, guesses)
            except Refused:
                continue
            for numbers in itertools.islice(runs_of(program, 6, (0, 1, -2)), 60):
                found = run_guessed(code, numbers)
                self.assertEqual(found, machine(code, numbers))
                failed += found[3] is not None
        self.assertGreater(failed, 500)


class Guessing(unittest.TestCase):
    def check(self, program, guesses):
        try:
            code = guess_code(program, guesses)
        except Refused as error:
            self.assertEqual(error.index, brute_guesses.refused(program, guesses))
            return None
        self.assertIs(type(code), GuessCode)
        self.assertEqual(list(code.quick.counts), guess_numbers(program, guesses))
        self.assertEqual(list(code.plain.counts), least_numbers(program))
        self.assertIsNone(judge(program, code.plain))
        self.assertIsNone(doubt(program, guesses, code))
        return code

    def check_runs(self, program, guesses, code, runs):
        """It says what the program says, and goes on by plain from where the run is in step no more."""
        failed = 0
        for numbers in runs:
            row, _, said = run(program, numbers)
            spot, registers, told, look = run_guessed(code, numbers)
            fails = brute_guesses.in_step(program, guesses, numbers)
            self.assertEqual((spot, told, look), (row, said, fails[-1] if fails else None))
            self.assertEqual(len(registers), (code.quick if look is None else code.plain).counts[row])
            failed += look is not None
        return failed

    def test_small_programs(self):
        failed = 0
        for seed in range(200):
            program = random_program(seed) if seed % 2 else asking_program(seed)
            guesses = random_guesses(program, seed) if seed % 4 else equal_guesses(program, seed)
            code = self.check(program, guesses)
            if code is not None:
                failed += self.check_runs(program, guesses, code, itertools.islice(runs_of(program, 6, (0, 1, -2)), 60))
        self.assertGreater(failed, 1000)

    def test_no_guesses(self):
        for seed in range(30):
            program = random_program(seed)
            for guesses in ([], ()):
                code = self.check(program, guesses)
                self.assertEqual((code.backs, code.quick.counts), ((), compiled(program).counts))
                self.check_runs(program, [], code, itertools.islice(runs_of(program, 5, (0, 1)), 30))

    def test_guesses_that_are_true_everywhere(self):
        for guesses in ([(3, (0, 0, 0))], [(2, (256, 512, -256)), (4, (0, 0, 0))], [(row, (0, 0, 0)) for row in range(6)]):
            code = self.check(pair(), guesses)
            self.assertEqual(list(code.quick.counts)[:6], least_numbers(pair()))
            runs = list(itertools.islice(runs_of(pair(), 5, (0, 1, 9)), 60))
            self.assertEqual(self.check_runs(pair(), guesses, code, runs), 0)

    def test_two_at_one_row(self):
        guesses = [(2, (0, 1, 0)), (2, (-3, 0, 1))]
        code = self.check(pair(), guesses)
        self.assertEqual(code.quick.counts, (0, 1, 0, 0, 0, 0, 2, 1))
        self.assertEqual([run_guessed(code, numbers)[2:] for numbers in ([0, 3, 1, 0], [1, 3, 1, 0], [0, 4, 1, 0], [1, 4, 0, 0])],
                         [([3], None), ([3], 0), ([4], 1), ([1], 0)])

    def test_a_look_behind_the_last_number(self):
        code = guess_code(pair(), TRUST)
        self.assertEqual([run_guessed(code, numbers)[::3] for numbers in ([9, 9], [9, 8])], [(2, None), (2, 0)])
        self.assertEqual(len(run_guessed(code, [9, 8])[1]), 2)

    def test_halves_behind_a_look(self):
        """Behind the look x is even: what is said there hangs on x / 2 alone, which no form over x tells."""
        program = Program(8, ["x"], [("ask", "x", 1), ("choose", (2, 3)), ("say", (0, 1), 3), ("stop",)])
        for form in ((0, 128), (128, 128), (0, 64), (0, 2), (4, 4)):
            guesses = [(1, form)]
            code = self.check(program, guesses)
            for x in range(256):
                said = run_guessed(code, [x, 0, 0])
                self.assertEqual(said[2:], ([x], None if (form[0] + form[1] * x) % 256 == 0 else 0))

    def test_plain_registers_that_are_halves(self):
        program = Program(8, ["x"], [("ask", "x", 1), ("set", "x", (6, 4), 2), ("choose", (3, 4)), ("say", (1, 3), 2), ("stop",)])
        for form in ((-6, 1), (-2, 1), (0, 0), (8, 4)):
            guesses = [(2, form)]
            code = self.check(program, guesses)
            for x in range(0, 256, 3):
                value = (6 + 4 * x) % 256
                fails = (form[0] + form[1] * value) % 256 != 0
                self.assertEqual(run_guessed(code, [x, 0, 0, 0, 0, 0])[2:], ([(1 + 3 * value) % 256] * 2, 0 if fails else None))

    def test_rows_that_no_run_reaches(self):
        program = Program(8, ["x"], [("look", 2), ("say", (0, 1), 2), ("stop",)])
        code = self.check(program, [(1, (1, 0)), (1, (0, 1))])
        self.assertEqual((code.quick.counts, code.backs), ((0,) * 5, ((), ())))
        half = Program(8, ["x"], [("ask", "x", 1), ("choose", (2, 1)), ("say", (0, 1), 1)])
        self.check(half, [(1, (0, 1)), (2, (5, 0))][:1])

    def test_rows_that_are_reached_out_of_step_alone(self):
        """In step x is 0 at row 1; behind the look none but plain comes to row 2 with x."""
        rows = [("ask", "x", 1), ("say", (0, 1), 2), ("set", "x", (0, 2), 3), ("look", 1)]
        program = Program(8, ["x"], rows)
        code = self.check(program, [(1, (0, 1))])
        self.assertEqual((code.quick.counts, code.plain.counts), ((0, 0, 0, 0, 1), (0, 1, 1, 1)))
        self.check_runs(program, [(1, (0, 1))], code, [[x] + [0] * many for x in (0, 1, 77) for many in range(9)])

    def test_wide_programs(self):
        program = dense_program()
        rng = random.Random(3)
        for seed in range(3):
            guesses = [(4 * at + 3, (0,) + tuple(rng.getrandbits(8) << 56 for _ in range(6))) for at in range(6)]
            code = self.check(program, guesses)
            self.assertEqual(len(code.quick.rows), 31)
            for _ in range(10):
                numbers, row = [], 0
                for _ in range(80):
                    item = program[row]
                    numbers.append(rng.getrandbits(64) if item[0] == "ask" else
                                   rng.randrange(len(item[1])) if item[0] == "choose" else 0)
                    row = item[1][numbers[-1]] if item[0] == "choose" else item[-1]
                self.check_runs_wide(program, guesses, code, numbers)

    def check_runs_wide(self, program, guesses, code, numbers):
        for many in (0, 9, 40, 80):
            row, _, said = run(program, numbers[:many])
            spot, _, told, look = run_guessed(code, numbers[:many])
            self.assertEqual((spot, told), (row, said))
            failing = None
            for ahead in range(1, many + 1):
                at, state, _ = run(program, numbers[:ahead])
                for index, (where, form) in enumerate(guesses):
                    if where == at and failing is None and brute.value_of(form, state, 64):
                        failing = index
            self.assertEqual(look, failing)


class Arguments(unittest.TestCase):
    def test_names(self):
        code = looking()
        self.assertEqual(GuessCode(backs=code.backs, plain=code.plain, quick=code.quick), code)
        self.assertEqual(run_guessed(numbers=[5, 0], code=code), (2, (), [10], 0))
        self.assertEqual(guess_code(guesses=TRUST, program=pair()), guess_code(pair(), tuple(TRUST)))

    def test_lists_and_tuples_and_any_integers(self):
        code = looking()
        for backs in ([((0, 2),)], (((0, 2),),), [((-256, 258),)]):
            self.assertEqual(GuessCode(code.quick, code.plain, backs), code)
        for numbers in ([5, 0], (5, 0), [261, 0], (5 - 2 ** 70, 0)):
            self.assertEqual(run_guessed(code, numbers), (2, (), [10], 0))
        self.assertEqual(guess_code(pair(), [(2, (256, 257, 255))]), guess_code(pair(), TRUST))

    def test_arguments_stay_and_lists_are_new(self):
        code, numbers, guesses, backs = looking(), [5, 0], list(TRUST), [((0, 2),)]
        run_guessed(code, numbers)[2].append(1)
        self.assertEqual(run_guessed(code, numbers), (2, (), [10], 0))
        made = GuessCode(code.quick, code.plain, backs)
        backs.append(1)
        self.assertEqual(made, code)
        found = guess_code(pair(), guesses)
        guesses.clear()
        self.assertEqual((found, numbers), (guess_code(pair(), TRUST), [5, 0]))


if __name__ == "__main__":
    unittest.main()
