"""Doubts, and which guesses are worth it: points 2, 3 and 67."""

import random
import unittest

from leastkeep.codes import Code
from leastkeep.doubts import doubt, greatest_numbers, least_guesses
from leastkeep.errors import NoCount, NoGuess, NotOver, Refused
from leastkeep.guesses import guess_numbers
from leastkeep.guessing import GuessCode, guess_code
from leastkeep.programs import Program
from tests import brute_guesses
from tests.samples import (asking_program, changed_guess_code, dense_program, equal_guesses, no_integers, no_sequences,
                           odd_values, once, padded_code, padded_guess_code, pair, plain_code, random_guesses,
                           random_program, twice)

TRUST = [(2, (0, 1, -1))]
BETS = [(1, (0, 0, 1)), (2, (0, 1, 0)), (2, (1, 2, 0))]


def small_programs(many):
    for seed in range(many):
        width, size = [(1, 1), (1, 2), (2, 1), (1, 2), (1, 1)][seed % 5]
        program = random_program(seed, width, size, 3 + seed % 6)
        yield seed, Program(width, program.variables, (("ask", "x", 1),) + program.rows[1:])


class Doubt(unittest.TestCase):
    def test_codes_with_one_number_changed(self):
        told = []
        for seed, program in small_programs(150):
            guesses = random_guesses(program, seed, 3)
            try:
                code = guess_code(program, guesses)
            except Refused:
                continue
            self.assertIsNone(doubt(program, guesses, code))
            for change in range(5):
                other = changed_guess_code(code, 10 * seed + change)
                found = doubt(program, guesses, other)
                self.assertEqual(found, brute_guesses.first_doubt(program, guesses, other))
                told.append("fine" if found is None else "look" if found >= len(program) else "row")
        for kind in ("fine", "look", "row"):
            self.assertGreater(told.count(kind), 20)

    def test_other_guesses_than_those_of_the_code(self):
        told = []
        for seed, program in small_programs(200):
            guesses = random_guesses(program, seed, 3)
            try:
                code = guess_code(program, guesses)
            except Refused:
                continue
            rng = random.Random(seed)
            others = [(row, tuple(number + rng.choice([0, 0, 1]) for number in form)) for row, form in guesses]
            found = doubt(program, others, code)
            self.assertEqual(found, brute_guesses.first_doubt(program, others, code))
            told.append(found is None)
        self.assertGreater(min(told.count(True), told.count(False)), 10)

    def test_refused_guesses_raise_nothing(self):
        """A guess that no state keeps to: none is behind its look, so rows are shown that nothing comes to."""
        guesses = [(2, (1, 2, 0))]
        with self.assertRaises(Refused):
            guess_code(pair(), guesses)
        wide = plain_code(pair())
        quick = Code(8, (2,) * 7, [("ask", (1,), (), wide.rows[0][3]), ("ask", (6,), (), wide.rows[1][3])] + list(wide.rows[2:])
                     + [("go", (2,), ((1, 2, 0),), (((0, 0, 0),) * 2,))], (0, 0))
        same = ((0, 1, 0), (0, 0, 1))
        self.assertIsNone(doubt(pair(), guesses, GuessCode(quick, wide, [same])))
        self.assertEqual(doubt(pair(), guesses, GuessCode(quick, wide, [((0, 1, 0), (0, 1, 0))])), 6)
        # Here states go on, with other registers than the code has then.
        self.assertEqual(doubt(pair(), [(2, (1, 2, 1))], GuessCode(quick, wide, [same])), 3)

    def test_rows_are_told_ahead_of_looks(self):
        code = guess_code(pair(), TRUST)
        rows = list(code.quick.rows)
        rows[4] = rows[4][:2] + (((1, 1),),) + rows[4][3:]
        rows[6] = rows[6][:2] + (((1, 1, 1),),) + rows[6][3:]
        wrong = GuessCode(Code(8, code.quick.counts, rows, code.quick.start), code.plain, code.backs)
        self.assertEqual(doubt(pair(), TRUST, wrong), 4)
        right = code.quick.rows[4:5]
        wrong = GuessCode(Code(8, code.quick.counts, rows[:4] + list(right) + rows[5:], code.quick.start), code.plain, code.backs)
        self.assertEqual(doubt(pair(), TRUST, wrong), 6)

    def test_plain_codes_that_are_wrong_where_it_matters(self):
        code = guess_code(pair(), TRUST)
        rows = list(code.plain.rows)
        rows[0] = rows[0][:3] + ((((5, 7),),),)
        # The plain code is never begun at row 0, and goes on at row 2 alone.
        self.assertIsNone(doubt(pair(), TRUST, GuessCode(code.quick, Code(8, code.plain.counts, rows, code.plain.start),
                                                         code.backs)))
        rows[4] = rows[4][:2] + (((0, 3),),) + rows[4][3:]
        self.assertEqual(doubt(pair(), TRUST, GuessCode(code.quick, Code(8, code.plain.counts, rows, code.plain.start),
                                                        code.backs)), 6)

    def test_the_first_look_of_several(self):
        guesses = [(3, (0, 1, 0)), (4, (0, 0, 1)), (2, (0, 0, 0))]
        code = guess_code(pair(), guesses)
        for index in range(3):
            backs = list(code.backs)
            if not backs[index]:
                continue
            backs[index] = tuple((form[0] + 1,) + form[1:] for form in backs[index])
            self.assertEqual(doubt(pair(), guesses, GuessCode(code.quick, code.plain, backs)), 6 + index)

    def test_wide_codes(self):
        for seed in range(2):
            program = dense_program(seed=seed + 1)
            guesses = [(4 * at + 3, (0,) + tuple(4 if place == at else 0 for place in range(6))) for at in range(6)]
            code = guess_code(program, guesses)
            self.assertIsNone(doubt(program, guesses, code))
            wide = padded_guess_code(code, 56, 2)
            self.assertIsNone(doubt(program, guesses, wide))
            changed = changed_guess_code(code, seed)
            self.assertEqual(doubt(program, guesses, padded_guess_code(changed, 10, 2)), doubt(program, guesses, changed))

    def test_no_guesses(self):
        for seed in range(40):
            program = random_program(seed)
            wide = plain_code(program, seed % 2, seed)
            self.assertIsNone(doubt(program, [], GuessCode(wide, wide, [])))
        wrong = Code(8, [0, 1, 0], twice().rows[:1] + (("go", (2,), ((1, 1),), ((),)), ("stop", (), (), ())), ())
        self.assertIsNone(doubt(once(), [], GuessCode(twice(), twice(), [])))
        self.assertEqual(doubt(once(), (), GuessCode(wrong, twice(), [])), 1)
        # The plain code is never come to.
        self.assertIsNone(doubt(once(), (), GuessCode(twice(), wrong, [])))


class Numbers(unittest.TestCase):
    def test_examples(self):
        self.assertEqual(greatest_numbers(pair(), BETS)[:4], [((), 2), ((0,), 2), ((1,), 2), ((2,), None)])
        self.assertEqual([least_guesses(pair(), BETS, 2), least_guesses(pair(), BETS, 1)], [(), None])

    def sets_in_order(self, many):
        return sorted([tuple(at for at in range(many) if mask >> at & 1) for mask in range(2 ** many)],
                      key=lambda indexes: (len(indexes), indexes))

    def check(self, program, guesses, bounds=range(7)):
        wished = []
        for indexes in self.sets_in_order(len(guesses)):
            try:
                wished.append((indexes, max(guess_numbers(program, [guesses[at] for at in indexes]))))
            except Refused:
                wished.append((indexes, None))
        found = greatest_numbers(program, guesses)
        self.assertEqual(found, wished)
        self.assertEqual([type(item) for item in [found] + found], [list] + [tuple] * len(found))
        for most in bounds:
            fitting = [indexes for indexes, number in wished if number is not None and number <= most]
            self.assertEqual(least_guesses(program, guesses, most), fitting[0] if fitting else None)
        return [number for _, number in wished]

    def test_small_programs(self):
        numbers = []
        for seed in range(100):
            program = random_program(seed) if seed % 2 else asking_program(seed)
            numbers += self.check(program, random_guesses(program, seed, 4) if seed % 4 else equal_guesses(program, seed))
        for number in (None, 0, 1, 2):
            self.assertIn(number, numbers)

    def test_sets_that_leave_less(self):
        program = Program(8, ["x", "y"], [("ask", "x", 1), ("choose", (2, 3)), ("set", "y", (0, 1, 0), 4),
                                          ("set", "y", (5, 0, 0), 4), ("look", 5), ("stop",)])
        bets = [(4, (0, 1, 0)), (1, (1, 2, 0)), (3, (-5, 1, 0)), (4, (-5, 0, 1))]
        found = dict(greatest_numbers(program, bets))
        self.assertEqual((found[()], found[(0,)], found[(2,)], found[(1,)]), (2, 2, 1, None))
        self.assertEqual([least_guesses(program, bets, most) for most in (0, 1, 2, 10 ** 30)], [None, (2,), (), ()])
        self.check(program, bets)

    def test_six_guesses(self):
        program = dense_program()
        guesses = [(4 * at + 3, tuple(1 if place == at + 1 else 0 for place in range(7))) for at in range(6)]
        numbers = self.check(program, guesses, (4, 5))
        self.assertEqual(len(numbers), 64)
        self.assertEqual([indexes for indexes, _ in greatest_numbers(pair(), TRUST * 6)], self.sets_in_order(6))
        self.assertEqual(greatest_numbers(pair(), []), [((), 2)])

    def test_none(self):
        self.assertIsNone(least_guesses(pair(), [], 1))
        self.assertEqual(least_guesses(pair(), [], 2), ())
        silent = Program(8, ["x"], [("ask", "x", 1), ("stop",)])
        self.assertEqual([least_guesses(silent, [], 0), least_guesses(silent, [(1, (0, 1))], 0)], [(), ()])
        self.assertEqual(greatest_numbers(silent, [(1, (0, 1))]), [((), 0), ((0,), 1)])


class Wrong(unittest.TestCase):
    def test_no_guess(self):
        for asked in (lambda guesses: doubt(pair(), guesses, None), lambda guesses: greatest_numbers(pair(), guesses),
                      lambda guesses: least_guesses(pair(), guesses, None)):
            for bad in no_sequences() + [TRUST * 7]:
                self.no_guess(asked, bad, -1)
            for bad in no_sequences() + [(2, [0, 1, 1]), (6, (0, 1, 1)), (2, (0, 1, True)), [2, (0, 1, 1)]]:
                self.no_guess(asked, TRUST + [bad, None], 1)

    def no_guess(self, asked, guesses, index):
        with self.assertRaises(NoGuess) as caught:
            asked(guesses)
        self.assertEqual(caught.exception.index, index)

    def test_no_count(self):
        for bad in no_integers() + [-1, -10 ** 30]:
            for guesses in ([], BETS):
                with self.assertRaises(NoCount) as caught:
                    least_guesses(pair(), guesses, bad)
                self.assertEqual(caught.exception.part, "most")

    def not_over(self, code, row, guesses=None, program=None):
        with self.assertRaises(NotOver) as caught:
            doubt(program or pair(), TRUST if guesses is None else guesses, code)
        self.assertEqual(caught.exception.row, row)

    def with_row(self, code, row, item):
        rows = list(code.rows)
        rows[row] = item
        return Code(code.width, code.counts, rows, code.start)

    def test_no_code(self):
        for bad in odd_values() + [0, "", (), twice(), once()]:
            if type(bad) is not GuessCode:
                self.not_over(bad, -1)

    def test_width_and_numbers_of_rows(self):
        code = guess_code(pair(), TRUST)
        self.not_over(code, -1, [])
        self.not_over(code, -1, TRUST * 2)
        self.not_over(code, -1, program=Program(7, ["x", "y"], pair().rows))
        self.not_over(code, -1, [], Program(8, ["x", "y"], pair().rows + (("stop",),)))
        self.not_over(code, -1, program=Program(8, ["x", "y"], pair().rows + (("stop",),)))
        self.not_over(GuessCode(padded_code(code.plain, 0, 0), code.plain, ()), -1)
        # As many rows and looks, but the plain code has a row more: row 6 is no look then.
        more = Code(8, code.plain.counts + (0,), code.plain.rows + (("stop", (), (), ()),), code.plain.start)
        self.not_over(GuessCode(code.quick, more, ()), -1)

    def test_quick_rows(self):
        code = guess_code(pair(), TRUST)
        quick = code.quick
        for row, item in [(0, ("go", (1,), (), (((0,),),))), (1, ("ask", (2,), (), (((0, 1, 0),),))),
                          (2, ("choose", (4, 3)) + quick.rows[2][2:]), (3, quick.rows[3][:2] + ((),) + quick.rows[3][3:]),
                          (4, quick.rows[4][:2] + (quick.rows[4][2] * 2,) + quick.rows[4][3:]), (5, ("stop", (), ((0,),), ()))]:
            self.not_over(GuessCode(self.with_row(quick, row, item), code.plain, code.backs), row)
        # The look leads to row 4, which has as many registers as row 2, in the place of row 2.
        self.not_over(GuessCode(self.with_row(quick, 6, ("go", (4,)) + quick.rows[6][2:]), code.plain, [code.backs[0][:1]]), 6)

    def test_steps_must_lead_to_looks(self):
        code = guess_code(pair(), TRUST)
        past = self.with_row(code.quick, 1, ("ask", (2,)) + code.quick.rows[1][2:3] + ((((0, 1, 0),),),))
        self.not_over(GuessCode(past, code.plain, code.backs), 1)
        self.not_over(code, 0, [(1, (0, 0, 0))])
        self.not_over(code, 1, [(3, (0, 0, 0))])

    def test_plain_rows(self):
        code = guess_code(pair(), TRUST)
        plain = code.plain
        for row, item in [(1, ("ask", (3,)) + plain.rows[1][2:3] + ((((0, 1, 0),),),)), (3, plain.rows[3][:2] + ((),) + plain.rows[3][3:]),
                          (5, ("stop", (), ((0,),), ()))]:
            wrong = self.with_row(plain, row, item)
            self.not_over(GuessCode(code.quick, wrong, code.backs), row)
            bad = self.with_row(code.quick, 5, ("stop", (), ((0,),), ()))
            self.not_over(GuessCode(bad, wrong, code.backs), 5)


class Arguments(unittest.TestCase):
    def test_names(self):
        code = guess_code(pair(), TRUST)
        self.assertIsNone(doubt(code=code, guesses=TRUST, program=pair()))
        self.assertEqual(greatest_numbers(guesses=BETS, program=pair()), greatest_numbers(pair(), tuple(BETS)))
        self.assertEqual(least_guesses(most=2, guesses=BETS, program=pair()), ())

    def test_any_integers(self):
        code = guess_code(pair(), TRUST)
        for guesses in (tuple(TRUST), [(2, (256, 257, 255))], ((2, (-256, 1 + 2 ** 70, -257)),)):
            self.assertIsNone(doubt(pair(), guesses, code))

    def test_arguments_stay_and_lists_are_new(self):
        guesses = list(BETS)
        greatest_numbers(pair(), guesses).clear()
        self.assertEqual(len(greatest_numbers(pair(), guesses)), 8)
        least_guesses(pair(), guesses, 0)
        doubt(pair(), TRUST, guess_code(pair(), TRUST))
        self.assertEqual(guesses, BETS)


if __name__ == "__main__":
    unittest.main()
