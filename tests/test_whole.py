"""What the document promises over the whole program: points 2 to 4."""

import random
import unittest

from leastkeep.alike import alike
from leastkeep.behaviours import least, least_numbers, paper, shown, table
from leastkeep.calls import Calls
from leastkeep.codes import Code, run_code
from leastkeep.compiling import compiled
from leastkeep.desks import Desk
from leastkeep.doubts import doubt, greatest_numbers
from leastkeep.equality import apart
from leastkeep.errors import KeepError, NoGuess, NoRow, NotOver, Refused
from leastkeep.far import comes_back, far_said, far_state, first_round, first_unlike, rounds_with
from leastkeep.guesses import guess_hulls, guess_numbers
from leastkeep.guessing import GuessCode, guess_code, run_guessed
from leastkeep.hulls import all_hulls
from leastkeep.joining import joined, strays
from leastkeep.judging import judge
from leastkeep.programs import Program
from leastkeep.recipes import check_recipe, takeover
from leastkeep.runs import go_on, run
from leastkeep.splits import split_code
from leastkeep.summaries import hull_in, wanted_in
from leastkeep.tables import table_of
from leastkeep.texts import read_program, show_program
from leastkeep.wants import all_wanted
from tests.samples import (asking_program, changed_code, changed_program, climbing, dense_program, double, double_code,
                           equal_guesses, no_integers, odd_values, once, pair, random_code, random_program, shifts,
                           twice, turning, varied)


def drawn_programs(many):
    return [random_program(seed) for seed in range(many)] + [random_program(seed, 64, 6, 25) for seed in range(4)]


class Promises(unittest.TestCase):
    def test_least_and_papers(self):
        """A code with fewer registers says another number at one of the places of the table of a paper."""
        tried = 0
        for seed, program in enumerate(drawn_programs(40)):
            numbers = least_numbers(program)
            self.assertEqual(list(compiled(program).counts), numbers)
            for row, number in enumerate(numbers):
                self.assertEqual(least(program, row), number)
                proof = paper(program, row)
                self.assertEqual(shown(program, row, proof), number)
                self.assertEqual((len(proof[1]), len(proof[0])), (number, number + 1 if proof[0] else 0))
                self.assertEqual(len(table(program, row, proof)), len(proof[0]))
            code = random_code(program, seed)
            for row, (many, number) in enumerate(zip(code.counts, numbers)):
                if many < number:
                    tried += 1
                    self.assertTrue(self.says_another(program, code, paper(program, row)))
        self.assertGreater(tried, 40)

    def says_another(self, program, code, proof):
        runs, ways = proof
        for numbers in runs:
            row, state, said = run(program, numbers)
            for way, index in ways:
                whole = numbers + tuple(way)
                if (run_code(code, whole)[2] + [None])[len(said) + index] != go_on(program, row, state, way)[2][index]:
                    return True
        return False

    def test_texts_codes_and_takeovers(self):
        for program in drawn_programs(40) + [dense_program(), shifts()]:
            again = read_program(show_program(program))
            self.assertEqual(again, program)
            self.assertIsNone(apart(program, again))
            code = compiled(again)
            self.assertEqual(code, compiled(program))
            self.assertIsNone(judge(program, code))
            self.assertIsNone(strays(program, code))
            for row in range(len(program)):
                recipe = takeover(program, code, row)
                self.assertIsNone(check_recipe(program, code, row, recipe))
                self.assertTrue(alike(program, row, again, row))

    def test_judged_codes_are_wrong_where_they_are_told_to_be(self):
        for seed, program in enumerate(drawn_programs(60)):
            code = changed_code(compiled(program), seed)
            found = judge(program, code)
            if found is not None:
                self.assertNotEqual(run(program, found)[2], run_code(code, found)[2])
                self.assertEqual(run(program, found[:-1])[2], run_code(code, found[:-1])[2])
                self.assertEqual(run(program, found)[0], run_code(code, found)[0])

    def test_equal_programs(self):
        for seed, program in enumerate(drawn_programs(40)):
            same = varied(program, seed)
            self.assertIsNone(apart(program, same))
            self.assertIsNone(judge(program, compiled(same)))
            self.assertEqual(least_numbers(program), least_numbers(same))
            self.assertEqual([table_of(program, row) for row in range(len(program))],
                             [table_of(same, row) for row in range(len(program))])
            other = changed_program(program, seed)
            found = apart(program, other)
            self.assertEqual(found is None, judge(other, compiled(program)) is None)
            if found is not None:
                self.assertNotEqual(run(program, found)[2], run(other, found)[2])

    def test_codes_of_all_kinds_follow(self):
        for seed in range(40):
            program = asking_program(seed)
            codes = [compiled(program), joined(program), split_code(program, [{}])[0]]
            try:
                made = guess_code(program, equal_guesses(program, seed))
            except Refused:
                made = guess_code(program, [])
            self.assertIsNone(doubt(program, [], GuessCode(made.plain, made.plain, [])))
            for code in codes + [made.plain]:
                self.assertIsNone(strays(program, code))
            desk = Desk(program)
            for code in (made.plain, compiled(program)):
                desk.keep(code)
            self.assertEqual(desk.best(), [0, 1])

    def test_far_rounds(self):
        """What is said far out, and where numbers are said, fit together."""
        program = Program(64, ["x", "y"], [("set", "x", (1, 1, 0), 1), ("set", "y", (0, 5, 3), 2), ("say", (0, 1, 1), 0)])
        numbers, state, far = [0, 0, 0], (7, 9), 10 ** 30
        ahead, period = comes_back(program, 0, numbers, state)
        self.assertEqual(far_state(program, 0, numbers, state, far), far_state(program, 0, numbers, state, far + period))
        there = far_state(program, 0, numbers, state, far)
        self.assertEqual(far_said(program, 0, numbers, state, far), go_on(program, 0, there, numbers)[2][0])
        for form in ((0, 1, 0), (0, 0, 1), (3, 2, 5)):
            value = form[0] + form[1] * there[0] + form[2] * there[1]
            self.assertEqual(first_round(program, 0, numbers, state, form, value, start=far), far)
            self.assertEqual(rounds_with(program, 0, numbers, state, form, value, far + 1)
                             - rounds_with(program, 0, numbers, state, form, value, far), 1)
        self.assertIsNone(first_unlike(program, 0, numbers, state, 0, numbers * 3, state))


class General(unittest.TestCase):
    def objects(self):
        code = guess_code(pair(), [(2, (0, 1, -1))])
        return [double(), double_code(), climbing(), Desk(double()), code]

    def test_no_object_is_equal_to_anything_of_another_kind(self):
        for item in self.objects():
            others = [other for other in self.objects() if type(other) is not type(item)]
            others += [other for other in odd_values() if type(other) is not type(item)]
            for other in others + [0, 1, "", "x", [], (), vars(item), tuple(vars(item).values()), NoRow(0)]:
                self.assertIs(item == other, False)
                self.assertIs(other == item, False)
                self.assertIs(item != other, True)

    def test_equal_arguments_make_equal_objects(self):
        for item, again in zip(self.objects(), self.objects()):
            self.assertIs(item == again, True)
            self.assertIs(item != again, False)
            self.assertIs(item == item, True)

    def test_lists_and_tuples_make_equal_objects(self):
        item = double()
        self.assertEqual(Program(8, list(item.variables), list(item.rows)), item)
        item = double_code()
        self.assertEqual(Code(8, list(item.counts), list(item.rows), item.start), item)
        self.assertEqual(Code(8, tuple(item.counts), tuple(item.rows), item.start), item)
        item = climbing()
        self.assertEqual(Calls(8, list(item.functions)), item)

    def test_attributes_are_tuples(self):
        item = Calls(8, list(climbing().functions))
        self.assertIs(type(item.functions), tuple)
        item = GuessCode(twice(), twice(), [])
        self.assertEqual([type(item.quick), type(item.plain), type(item.backs)], [Code, Code, tuple])

    def test_results_do_not_hang_on_what_was_asked_ahead(self):
        programs = [random_program(seed) for seed in range(20)] + [dense_program()]

        def told(program):
            return (all_hulls(program), all_wanted(program), least_numbers(program), compiled(program), joined(program),
                    guess_hulls(program, []), [paper(program, row) for row in range(len(program))])
        first = [told(program) for program in programs]
        for at in reversed(range(len(programs))):
            self.assertEqual(told(programs[at]), first[at])

    def test_the_first_error_is_raised(self):
        """An earlier argument, or a point with a smaller number, goes first."""
        for bad in no_integers():
            for asked in (lambda: go_on(double(), bad, None, None), lambda: table(double(), bad, None),
                          lambda: alike(double(), bad, double(), None), lambda: alike(double(), 0, double(), bad),
                          lambda: far_state(turning(), bad, None, None, None)):
                with self.assertRaises(NoRow) as caught:
                    asked()
                self.assertIs(caught.exception.row, bad)
        with self.assertRaises(NotOver):
            check_recipe(once(), double_code(), None, None)
        with self.assertRaises(NoRow):
            check_recipe(once(), twice(), None, None)
        with self.assertRaises(NoGuess):
            doubt(pair(), None, None)
        with self.assertRaises(NoGuess):
            guess_code(pair(), [(2, (1, 2, 0)), None])

    def test_errors_are_caught_by_their_base(self):
        for asked in (lambda: Calls(0, None), lambda: GuessCode(None, None, None), lambda: Desk(double()).drop(0),
                      lambda: read_program(None), lambda: hull_in(climbing(), 5, 5), lambda: wanted_in(climbing(), 1, 5),
                      lambda: greatest_numbers(pair(), None), lambda: guess_numbers(pair(), [(2, (1, 2, 0))]),
                      lambda: run_guessed(GuessCode(twice(), twice(), ()), None), lambda: Desk(double()).keep(1)):
            with self.assertRaises(KeepError) as caught:
                asked()
            self.assertIsInstance(caught.exception, ValueError)

    def test_drawn_arguments_are_not_changed(self):
        rng = random.Random(1)
        for seed in range(20):
            program = asking_program(seed)
            text, guesses = show_program(program), equal_guesses(program, seed)
            before = list(guesses)
            try:
                code = guess_code(program, guesses)
                doubt(program, guesses, code)
            except Refused:
                pass
            greatest_numbers(program, guesses)
            desk = Desk(program)
            desk.put(rng.randrange(len(program)), ("look", 0))
            desk.exchange(0, len(program) - 1)
            self.assertEqual((show_program(program), guesses), (text, before))


if __name__ == "__main__":
    unittest.main()
