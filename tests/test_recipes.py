"""Takeovers and what is given back: points 2, 3 and 47 to 49, and the promise TAKEOVER."""

import itertools
import random
import unittest

from leastkeep.behaviours import least_numbers
from leastkeep.codes import Code, run_code
from leastkeep.compiling import compiled
from leastkeep.errors import NoRecipe, NoRow, NotOver
from leastkeep.hulls import all_hulls
from leastkeep.judging import judge
from leastkeep.modules import echelon, is_in, meet
from leastkeep.programs import Program
from leastkeep.recipes import check_recipe, given_back, takeover
from leastkeep.runs import go_on, run
from leastkeep.wants import wanted
from tests import brute
from tests.samples import (changed_code, dense_program, double, double_code, doubled_code, no_integers, no_sequences,
                           odd_values, once, padded_code, plain_code, random_code, random_program, twice)


def codes_over(program, seed):
    return [compiled(program), plain_code(program, seed % 2, seed), doubled_code(program), random_code(program, seed),
            changed_code(compiled(program), seed)]


def values_of(recipe, registers, width):
    return tuple(brute.value_of(form, registers, width) for form in recipe)


def small_programs(many):
    for seed in range(many):
        width, size = [(1, 1), (1, 2), (2, 1), (3, 1), (2, 2)][seed % 5]
        yield seed, random_program(seed, width, size, 2 + seed % 6)


class Takeover(unittest.TestCase):
    def test_examples(self):
        self.assertIsNone(takeover(once(), twice(), 1))
        found = takeover(once(), compiled(once()), 1)
        self.assertEqual([type(part) for part in (found,) + found], [tuple, tuple])
        self.assertIsNone(check_recipe(once(), compiled(once()), 1, found))

    def test_by_name(self):
        self.assertIsNone(takeover(row=1, code=twice(), program=once()))
        self.assertIsNotNone(check_recipe(recipe=((0, 1),), row=1, code=twice(), program=once()))
        self.assertEqual(given_back(row=3, program=double()), [(1, 1), (0, 2)])
        self.assertEqual(given_back(code=twice(), row=1, program=once()), [(2,)])

    def check_takeover(self, program, code, row, states, colors):
        found = takeover(program, code, row)
        if found is None:
            self.assertFalse(self.any_recipe(program, code, row, states, colors))
            return False
        self.assertEqual([type(part) for part in (found,) + found], [tuple] * (1 + len(program.variables)))
        self.assertEqual({len(form) for form in found}, {code.counts[row] + 1})
        self.assertTrue(all(0 <= number < 2 ** program.width for form in found for number in form))
        self.assertTrue(self.is_right(program, row, found, states, colors))
        self.assertIsNone(check_recipe(program, code, row, found))
        return True

    def is_right(self, program, row, recipe, states, colors):
        return all(colors[0, row, values_of(recipe, registers, program.width)] == colors[0, row, state]
                   for state, registers in states)

    def any_recipe(self, program, code, row, states, colors):
        """Whether there is any right recipe: all of them are tried, unless they are too many."""
        forms = brute.all_forms(program.width, code.counts[row])
        if len(forms) ** len(program.variables) > 5000:
            return False
        return any(self.is_right(program, row, recipe, states, colors)
                   for recipe in itertools.product(forms, repeat=len(program.variables)))

    def test_small_programs_and_all_recipes(self):
        told = [0, 0]
        for seed, program in small_programs(120):
            colors = brute.behaviours([program])
            for code in codes_over(program, seed):
                for row, states in enumerate(brute.joint_states(program, code)):
                    told[self.check_takeover(program, code, row, states, colors)] += 1
        self.assertGreater(min(told), 200)

    def test_takeovers_of_compiled_codes(self):
        for seed in range(60):
            program = random_program(seed)
            code = compiled(program)
            colors = brute.behaviours([program])
            for row, states in enumerate(brute.joint_states(program, code)):
                self.assertTrue(self.check_takeover(program, code, row, states, colors))

    def test_wide_programs_with_loops(self):
        for seed in range(1, 4):
            program = dense_program(seed=seed) if seed < 2 else random_program(seed, 64, 6, 25)
            for code in (compiled(program), padded_code(compiled(program), 5, 2), plain_code(program, 3)):
                for row in range(25):
                    found = takeover(program, code, row)
                    self.assertIsNone(check_recipe(program, code, row, found))
                    self.try_on_runs(program, code, row, found)

    def try_on_runs(self, program, code, row, recipe):
        rng = random.Random(row)
        for _ in range(3):
            numbers, spot = [], 0
            while program[spot][0] != "stop" and len(numbers) < 60:
                if spot == row:
                    self.go_on_with(program, code, row, recipe, numbers)
                item = program[spot]
                numbers.append(rng.getrandbits(64) if item[0] == "ask" else
                               rng.randrange(len(item[1])) if item[0] == "choose" else 0)
                spot = item[1][numbers[-1]] if item[0] == "choose" else item[-1]

    def go_on_with(self, program, code, row, recipe, numbers):
        registers = run_code(code, numbers)[1]
        state = run(program, numbers)[1]
        taken = values_of(recipe, registers, program.width)
        for seed in range(2):
            rng = random.Random(seed)
            on, spot = [], row
            while program[spot][0] != "stop" and len(on) < 30:
                item = program[spot]
                on.append(rng.getrandbits(64) if item[0] == "ask" else
                          rng.randrange(len(item[1])) if item[0] == "choose" else 0)
                spot = item[1][on[-1]] if item[0] == "choose" else item[-1]
            self.assertEqual(go_on(program, row, taken, on)[2], go_on(program, row, state, on)[2])

    def test_sixty_four_registers(self):
        program = dense_program()
        code = padded_code(compiled(program), 50, 8)
        self.assertIsNone(judge(program, code))
        found = takeover(program, code, 20)
        self.assertIsNone(check_recipe(program, code, 20, found))
        self.try_on_runs(program, code, 20, found)
        other = (found[0][:-1] + (found[0][-1] + 1,),) + found[1:]
        self.assertIsNone(check_recipe(program, code, 20, other))
        self.assertIsNotNone(check_recipe(program, code, 20, (found[0][:5] + (found[0][5] + 1,) + found[0][6:],)
                                          + found[1:]))

    def test_no_takeover_for_a_right_code_with_the_least_numbers(self):
        for width in (2, 8, 64):
            program = Program(width, ["x"], [("ask", "x", 1), ("say", (0, 2), 2), ("stop",)])
            code = Code(width, [0, 1, 0], twice().rows, ())
            self.assertIsNone(judge(program, code))
            self.assertEqual(list(code.counts), least_numbers(program))
            self.assertEqual([takeover(program, code, row) is None for row in range(3)], [False, True, False])

    def test_values_that_no_run_reaches(self):
        program = Program(8, ["x", "y"], [("ask", "x", 1), ("set", "y", (5, 0, 0), 2), ("say", (0, 1, 3), 3), ("stop",)])
        code = Code(8, [0, 1, 1, 0], [("ask", (1,), (), (((0, 1),),)), ("go", (2,), (), (((15, 1),),)),
                                      ("go", (3,), ((0, 1),), ((),)), ("stop", (), (), ())], ())
        self.assertIsNone(judge(program, code))
        for recipe in (((0, 1), (0, 0)), ((-15, 1), (5, 0)), ((0, 0), (0, 171))):
            self.assertIsNone(check_recipe(program, code, 2, recipe))
        self.assertIsNotNone(check_recipe(program, code, 2, ((0, 1), (5, 0))))

    def test_a_wrong_code(self):
        rows = [("ask", (1,), (), (((7, 3),),)), ("go", (2,), ((9, 9),), ((),)), ("stop", (), (), ())]
        code = Code(8, [0, 1, 0], rows, ())
        self.assertIsNotNone(judge(once(), code))
        self.assertEqual(2 * takeover(once(), code, 1)[0][1] % 256, 2 * 171 % 256)

    def test_a_row_that_no_run_reaches(self):
        program = Program(8, ["x"], [("stop",), ("look", 0)])
        code = Code(8, [0, 2], [("stop", (), (), ()), ("go", (0,), ((3, 1, 1),), ((),))], ())
        found = takeover(program, code, 1)
        self.assertEqual((len(found), len(found[0])), (1, 3))
        for recipe in (found, ((1, 2, 3),), ((0, 0, 0),)):
            self.assertIsNone(check_recipe(program, code, 1, recipe))

    def test_a_row_behind_which_nothing_is_said(self):
        for row in (0, 4):
            code = double_code()
            self.assertIsNone(check_recipe(double(), code, row, takeover(double(), code, row)))
            self.assertIsNone(check_recipe(double(), code, row, ((7,), (9,))))


class CheckRecipe(unittest.TestCase):
    def check_wrong(self, program, code, row, recipe, found):
        self.assertEqual([type(part) for part in (found,) + found], [tuple, tuple, tuple])
        numbers, (way, index) = found
        spot, state, _ = run(program, numbers)
        self.assertEqual((spot, type(way), type(index)), (row, tuple, int))
        taken = values_of(recipe, run_code(code, numbers)[1], program.width)
        self.assertNotEqual(go_on(program, row, taken, way)[2][index], go_on(program, row, state, way)[2][index])

    def test_examples(self):
        self.check_wrong(once(), twice(), 1, ((0, 1),), check_recipe(once(), twice(), 1, ((0, 1),)))

    def test_recipes_of_small_programs(self):
        told = [0, 0]
        for seed, program in small_programs(100):
            rng = random.Random(seed)
            colors = brute.behaviours([program])
            for code in codes_over(program, seed):
                for row, states in enumerate(brute.joint_states(program, code)):
                    recipe = takeover(program, code, row) or ((0,) * (code.counts[row] + 1),) * len(program.variables)
                    recipe = [list(form) for form in recipe]
                    recipe[rng.randrange(len(recipe))][rng.randint(0, code.counts[row])] += rng.randint(0, 3)
                    recipe = tuple(tuple(form) for form in recipe)
                    right = all(colors[0, row, values_of(recipe, registers, program.width)] == colors[0, row, state]
                                for state, registers in states)
                    found = check_recipe(program, code, row, recipe)
                    told[right] += 1
                    self.assertIs(found is None, right)
                    if not right:
                        self.check_wrong(program, code, row, recipe, found)
        self.assertGreater(min(told), 200)

    def test_numbers_that_are_not_from_0_on(self):
        code = compiled(double())
        found = takeover(double(), code, 2)
        self.assertIsNone(check_recipe(double(), code, 2, tuple(tuple(n - 256 for n in form) for form in found)))
        self.assertIsNone(check_recipe(double(), code, 2, tuple(tuple(n + 2 ** 80 for n in form) for form in found)))

    def test_no_recipe(self):
        good = (0, 1)
        cases = [(bad, -1) for bad in odd_values() + no_sequences() + [(), (good,), (good,) * 3, [good, good], "ab"]]
        forms = odd_values() + no_sequences() + [(), (0,), (0, 1, 2), [0, 1], "ab"]
        forms += [(bad, 1) for bad in no_integers()] + [(1, bad) for bad in no_integers()]
        cases += [((bad, bad), 0) for bad in forms] + [((good, bad), 1) for bad in forms]
        for recipe, index in cases:
            if recipe == ((0, 1), (0, 1)):
                continue
            with self.assertRaises(NoRecipe) as caught:
                check_recipe(double(), double_code(), 2, recipe)
            self.assertEqual(caught.exception.index, index)
        for row in (0, 4):
            self.assertIsNone(check_recipe(double(), double_code(), row, ((0,), (0,))))
            with self.assertRaises(NoRecipe):
                check_recipe(double(), double_code(), row, (good, good))


class GivenBack(unittest.TestCase):
    def test_examples(self):
        self.assertEqual(given_back(double(), 3), [(1, 1), (0, 2)])
        self.assertTrue(is_in(8, 2, given_back(double(), 3), (-1, 1)))
        self.assertTrue(is_in(8, 2, given_back(double(), 3), (0, 2)))
        self.assertFalse(is_in(8, 2, given_back(double(), 3), (1, 0)))

    def are_given_back(self, program, code, row, states):
        """The set of the linear parts that are given back: all of them and all forms over the registers are tried."""
        width, size = program.width, len(program.variables)
        states = list(states)
        told = {tuple(brute.value_of(form, registers, width) for _, registers in states)
                for form in brute.all_forms(width, code.counts[row])}
        return {part for part in itertools.product(range(2 ** width), repeat=size)
                if tuple(brute.value_of((0,) + part, state, width) for state, _ in states) in told}

    def test_small_codes(self):
        for seed, program in small_programs(120):
            width, size = program.width, len(program.variables)
            for code in codes_over(program, seed):
                for row, states in enumerate(brute.joint_states(program, code)):
                    if (2 ** width) ** (code.counts[row] + 1) > 300:
                        continue
                    found = given_back(program, row, code)
                    self.assertEqual(found, echelon(width, size, found))
                    self.assertEqual(brute.module_of(width, size, found),
                                     self.are_given_back(program, code, row, states))

    def test_every_right_code(self):
        """What all right codes give back that are at hand is just what is told without a code."""
        for seed in range(60):
            program = random_program(seed)
            width, size = program.width, len(program.variables)
            for row, states in enumerate(brute.lengths(program)):
                found = given_back(program, row)
                self.assertIs(type(found), list)
                self.assertEqual(found, echelon(width, size, found))
                self.assertEqual(brute.module_of(width, size, found), self.at_least(program, row, states))
                for code in (compiled(program), plain_code(program, 1, seed)):
                    common = meet(width, size, found, given_back(program, row, code))
                    self.assertEqual(common, found)

    def at_least(self, program, row, states):
        """Sums of what is wanted and of what is 0 for all differences; all parts if there are no states."""
        width, size = program.width, len(program.variables)
        states = list(states)
        constant = [part for part in itertools.product(range(2 ** width), repeat=size)
                    if len({brute.value_of((0,) + part, state, width) for state in states}) < 2]
        return brute.module_of(width, size, list(brute.linear_parts(program, row)) + constant)

    def test_a_right_code_that_gives_back_no_more(self):
        self.assertEqual(given_back(once(), 1), [(2,)])
        self.assertEqual(given_back(once(), 1, twice()), [(2,)])
        self.assertEqual(given_back(once(), 1, compiled(once())), [(1,)])
        self.assertEqual(given_back(double(), 1), [(2, 0), (0, 1)])
        self.assertEqual(given_back(double(), 3, double_code()), [(1, 0), (0, 1)])

    def test_a_row_that_no_run_reaches(self):
        program = Program(8, ["x", "y"], [("stop",), ("look", 0)])
        self.assertEqual(given_back(program, 1), [(1, 0), (0, 1)])
        self.assertEqual(given_back(program, 1, compiled(program)), [(1, 0), (0, 1)])
        self.assertEqual(given_back(program, 0), [(1, 0), (0, 1)])

    def test_a_halved_number(self):
        program = Program(8, ["x", "y"], [("ask", "x", 1), ("set", "x", (1, 64, 0), 2), ("say", (0, 2, 0), 3), ("stop",)])
        self.assertEqual(given_back(program, 2), [(2, 0), (0, 1)])
        self.assertEqual(given_back(program, 3), [(4, 0), (0, 1)])

    def test_wide_programs_with_loops(self):
        for seed in range(5):
            program = dense_program(seed=seed) if seed < 2 else random_program(seed, 64, 6, 25)
            for row, there in enumerate(all_hulls(program)):
                found = given_back(program, row)
                for part in wanted(program, row):
                    self.assertTrue(is_in(64, 6, found, part))
                if there is None:
                    self.assertEqual(len(found), 6)
        program = dense_program()
        code = padded_code(compiled(program), 50, 8)
        self.assertEqual(meet(64, 6, given_back(program, 20, code), given_back(program, 20)), given_back(program, 20))


class Wrong(unittest.TestCase):
    def test_not_over(self):
        others = [(Code(7, twice().counts, twice().rows, ()), -1), (double_code(), -1), (compiled(double()), -1)]
        others += [(bad, -1) for bad in odd_values() if not isinstance(bad, Code) and bad is not None]
        rows = list(twice().rows)
        rows[1] = ("go", (2,), (), ((),))
        others += [(Code(8, [0, 1, 0], rows, ()), 1), (Code(8, [0, 0, 0], [("stop", (), (), ())] * 3, ()), 0)]
        for code, row in others:
            for asked in (lambda: takeover(once(), code, None), lambda: check_recipe(once(), code, None, None),
                          lambda: given_back(once(), 1, code)):
                with self.assertRaises(NotOver) as caught:
                    asked()
                self.assertEqual(caught.exception.row, row)
        with self.assertRaises(NotOver):
            takeover(once(), None, 1)

    def test_no_row(self):
        for bad in no_integers() + [-1, 3, 10 ** 30]:
            for asked in (lambda: takeover(once(), twice(), bad), lambda: check_recipe(once(), twice(), bad, None),
                          lambda: given_back(once(), bad), lambda: given_back(once(), bad, twice()),
                          lambda: given_back(once(), bad, double_code())):
                with self.assertRaises(NoRow) as caught:
                    asked()
                self.assertIs(caught.exception.row, bad)


class Arguments(unittest.TestCase):
    def test_equal_arguments_and_new_lists(self):
        program, code = double(), double_code()
        first = given_back(program, 3)
        first.append(1)
        self.assertEqual(given_back(double(), 3), [(1, 1), (0, 2)])
        first = given_back(program, 2, code)
        first.clear()
        self.assertEqual(given_back(program, 2, double_code()), [(1, 0), (0, 1)])
        self.assertEqual(takeover(program, code, 2), takeover(double(), double_code(), 2))
        self.assertEqual(check_recipe(once(), twice(), 1, ((0, 1),)), check_recipe(once(), twice(), 1, ((0, 1),)))


if __name__ == "__main__":
    unittest.main()
