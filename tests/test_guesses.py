"""Guesses: points 2, 3, 64 and 65."""

import unittest

from leastkeep.behaviours import least_numbers
from leastkeep.errors import NoGuess, Refused
from leastkeep.guesses import guess_hulls, guess_numbers, guess_wanted
from leastkeep.hulls import all_hulls
from leastkeep.modules import echelon
from leastkeep.programs import Program
from leastkeep.wants import all_wanted
from tests import brute, brute_guesses
from tests.samples import (asking_program, dense_program, equal_guesses, no_integers, no_sequences, odd_values, pair,
                           random_guesses, random_program, shifts)

ALL = (guess_hulls, guess_wanted, guess_numbers)
TRUST = [(2, (0, 1, -1))]


class Small(unittest.TestCase):
    def states_of(self, program, hull):
        if hull is None:
            return set()
        base, module = hull
        self.assertEqual((type(hull), type(base), type(module)), (tuple, tuple, list))
        size = len(program.variables)
        self.assertEqual(module, echelon(program.width, size, module))
        for row in module:
            at = next(place for place, number in enumerate(row) if number)
            self.assertLess(base[at], row[at])
        return {tuple((a + b) % 2 ** program.width for a, b in zip(base, item))
                for item in brute.module_of(program.width, size, module)}

    def check(self, program, guesses):
        """Whether the guesses are refused, or else whether they leave less to be kept."""
        refused = brute_guesses.refused(program, guesses)
        if refused is not None:
            for asked in ALL:
                with self.assertRaises(Refused) as caught:
                    asked(program, guesses)
                self.assertEqual(caught.exception.index, refused)
            return "refused"
        hulls = guess_hulls(program, guesses)
        self.assertEqual([self.states_of(program, there) for there in hulls], brute_guesses.cut_hulls(program, guesses))
        size = len(program.variables)
        wants = guess_wanted(program, guesses)
        for found, parts in zip(wants, brute_guesses.parts_in_step(program, guesses)):
            self.assertEqual(found, echelon(program.width, size, found))
            self.assertEqual(brute.module_of(program.width, size, found),
                             brute.module_of(program.width, size, sorted(parts)))
        numbers = guess_numbers(program, guesses)
        self.assertEqual(numbers, brute_guesses.numbers_in_step(program, guesses))
        many = len(program) + len(guesses)
        self.assertEqual([(type(found), len(found)) for found in (hulls, wants, numbers)], [(list, many)] * 3)
        return "less" if any(a < b for a, b in zip(numbers, least_numbers(program))) else "fine"

    def test_drawn_guesses(self):
        told = [self.check(program, random_guesses(program, seed))
                for seed, program in enumerate(map(random_program, range(300)))]
        self.assertGreater(told.count("refused"), 100)
        self.assertGreater(told.count("fine"), 100)

    def test_guesses_that_leave_less(self):
        told = [self.check(program, equal_guesses(program, seed))
                for seed, program in enumerate(map(asking_program, range(150)))]
        self.assertGreater(told.count("less"), 50)

    def test_no_guesses(self):
        for program in [random_program(seed) for seed in range(40)] + [dense_program(), shifts()]:
            for guesses in ([], ()):
                self.assertEqual(guess_hulls(program, guesses), all_hulls(program))
                self.assertEqual(guess_wanted(program, guesses), all_wanted(program))
                self.assertEqual(guess_numbers(program, guesses), least_numbers(program))


class Edges(unittest.TestCase):
    def test_examples(self):
        self.assertEqual(guess_numbers(pair(), TRUST), [0, 1, 1, 1, 1, 0, 2])
        self.assertEqual(guess_numbers(pair(), [])[2], 2)
        same = ((0, 0), [(1, 1)])
        self.assertEqual(guess_hulls(pair(), TRUST),
                         [((0, 0), []), ((0, 0), [(1, 0)]), same, same, same, same, ((0, 0), [(1, 0), (0, 1)])])
        both = [(1, 0), (0, 1)]
        self.assertEqual(guess_wanted(pair(), TRUST), [[], [(1, 0)], both, [(1, 0)], [(0, 1)], [], both])

    def test_a_look_wants_what_is_wanted_without_guesses(self):
        program = Program(8, ["x", "y"], [("ask", "x", 1), ("ask", "y", 2), ("set", "y", (7, 0, 0), 3), ("look", 4),
                                          ("stop",)])
        trust = [(3, (0, 1, 0)), (2, (0, 0, 2))]
        # Row 2 wants x alone; the look at it says 2 y too.
        self.assertEqual(guess_wanted(program, trust)[2], [(1, 0)])
        self.assertEqual(guess_wanted(program, trust)[6], [(1, 0), (0, 2)])
        self.assertEqual(guess_wanted(program, trust)[5], [(1, 0), (0, 1)])
        # x is 0 behind the look at row 3; ahead of it, it is told there.
        self.assertEqual(guess_numbers(program, trust), [0, 1, 1, 0, 0, 1, 2])

    def test_several_guesses_at_one_row(self):
        trust = [(2, (0, 1, 0)), (2, (0, 0, 1)), (3, (0, 1, 1))]
        hulls = guess_hulls(pair(), trust)
        self.assertEqual(hulls[6:], [((0, 0), [(1, 0), (0, 1)]), ((0, 0), [(0, 1)]), ((0, 0), [])])
        self.assertEqual(hulls[2], ((0, 0), []))
        self.assertEqual(guess_numbers(pair(), trust), [0, 1, 0, 0, 0, 0, 2, 1, 0])
        other = guess_hulls(pair(), [trust[1], trust[0], trust[2]])
        self.assertEqual(other[6:8], [((0, 0), [(1, 0), (0, 1)]), ((0, 0), [(1, 0)])])

    def test_one_guess_behind_another(self):
        trust = [(3, (-5, 1, 0)), (2, (0, 1, -1))]
        hulls = guess_hulls(pair(), trust)
        self.assertEqual([hulls[row] for row in (2, 6, 3, 5)], [((0, 0), [(1, 1)]), ((0, 0), [(1, 1)]), ((5, 5), []),
                                                               ((0, 0), [(1, 1)])])
        self.assertEqual(guess_numbers(pair(), trust), [0, 1, 1, 0, 1, 0, 1, 2])

    def test_the_same_guess_twice(self):
        trust = TRUST + [(2, (256, 257, 255))]
        self.assertEqual(guess_numbers(pair(), trust), [0, 1, 1, 1, 1, 0, 2, 1])

    def test_the_beginning_is_no_step(self):
        once = Program(8, ["x"], [("set", "x", (1, 1), 1), ("choose", (0, 2)), ("look", 3), ("stop",)])
        # In step a step leads to row 0 only with x = 3: but x is 1 or 4 behind it.
        trust = [(0, (-3, 1))]
        self.assertEqual(brute_guesses.refused(once, trust), 0)
        with self.assertRaises(Refused):
            guess_hulls(once, trust)
        trust = [(0, (-1, 1))]
        self.assertEqual(guess_hulls(once, trust)[:2], [((0,), [(1,)]), ((0,), [(1,)])])
        self.assertEqual(guess_hulls(once, [(1, (-1, 1))])[0], ((0,), [(1,)]))
        self.assertEqual(guess_hulls(once, [(0, (7, 0)), (1, (-1, 1))][1:] + [(2, (-1, 1))])[:2],
                         [((0,), [(1,)]), ((1,), [])])
        never = Program(8, ["x"], [("set", "x", (1, 1), 1), ("stop",)])
        self.assertEqual(guess_hulls(never, [(0, (1, 0))]), [((0,), []), ((1,), []), None])

    def test_a_look_that_no_state_comes_to(self):
        rows = [("look", 2), ("say", (0, 1), 2), ("stop",)]
        program = Program(8, ["x"], rows)
        self.assertEqual(guess_hulls(program, [(1, (1, 0))]), [((0,), []), None, ((0,), []), None])
        self.assertEqual(guess_numbers(program, [(1, (1, 0))]), [0, 0, 0, 0])
        self.assertEqual(guess_wanted(program, [(1, (1, 0)), (1, (1, 2))]), [[(1,)], [(1,)], [], [(1,)], [(1,)]])

    def test_behind_a_refused_look_none_comes(self):
        trust = [(3, (0, 0, 1)), (2, (1, 0, 0)), (1, (1, 0, 0)), (2, (5, 0, 0))]
        for asked in ALL:
            with self.assertRaises(Refused) as caught:
                asked(pair(), trust)
            self.assertEqual(caught.exception.index, 2)
            with self.assertRaises(Refused) as caught:
                asked(pair(), trust[:2])
            self.assertEqual(caught.exception.index, 1)

    def test_no_state_but_a_sum_without_one(self):
        # x is odd at row 2, so that x is never 0 there, but twice such an x may be.
        program = Program(3, ["x"], [("ask", "x", 1), ("set", "x", (1, 2), 2), ("look", 3), ("stop",)])
        for form, refused in [((0, 1), True), ((0, 2), True), ((0, 4), True), ((4, 4), False), ((1, 1), False),
                              ((2, 1), True), ((0, 8), False), ((1, 0), True), ((6, 2), False)]:
            if refused:
                with self.assertRaises(Refused):
                    guess_hulls(program, [(2, form)])
            else:
                self.assertEqual(guess_hulls(program, [(2, form)])[4], ((1,), [(2,)]))
        self.assertEqual(guess_hulls(program, [(2, (1, 1))])[2], ((7,), []))
        self.assertEqual(guess_hulls(program, [(2, (6, 2))])[2], ((1,), [(4,)]))

    def test_a_loop_that_comes_to_a_look_again(self):
        # x goes up by 2 in each turn, but only where it is divisible by 4 it goes on: so it does just once.
        program = Program(8, ["x"], [("choose", (1, 2)), ("set", "x", (2, 1), 0), ("look", 3), ("stop",)])
        self.assertEqual(guess_hulls(program, [(1, (0, 64))]), [((0,), [(2,)]), ((0,), [(4,)]), ((0,), [(2,)]),
                                                               ((0,), [(2,)]), ((0,), [(2,)])])
        self.assertEqual(guess_hulls(program, [(1, (0, 1))]), [((0,), [(2,)]), ((0,), []), ((0,), [(2,)]),
                                                              ((0,), [(2,)]), ((0,), [(2,)])])
        narrow = Program(1, ["x"], program.rows)
        self.assertEqual(guess_hulls(narrow, [(1, (0, 1))])[1], ((0,), []))

    def test_wide_programs(self):
        for seed in range(3):
            program = dense_program(seed=seed + 1)
            rows = [(4 * at + 3, tuple(1 << 60 if place == at + 1 else 0 for place in range(7))) for at in range(6)]
            numbers = guess_numbers(program, rows)
            self.assertEqual(len(numbers), 31)
            self.assertTrue(all(number <= 6 for number in numbers))
            six = [(4, (0, 1, 0, 0, 0, 0, 0)), (4, (0, 0, 1, 0, 0, 0, 0)), (4, (0, 0, 0, 1, 0, 0, 0)),
                   (4, (0, 0, 0, 0, 1, 0, 0)), (4, (0, 0, 0, 0, 0, 1, 0)), (4, (0, 0, 0, 0, 0, 0, 1))]
            hulls = guess_hulls(program, six)
            self.assertEqual(hulls[4], ((0,) * 6, []))
            self.assertEqual([len(hulls[25 + at][1]) for at in range(5)],
                             [max(len(hulls[25][1]) - at, 0) for at in range(5)])


class Wrong(unittest.TestCase):
    def no_guess(self, guesses, index):
        for asked in ALL:
            with self.assertRaises(NoGuess) as caught:
                asked(pair(), guesses)
            self.assertEqual(caught.exception.index, index)

    def test_no_list(self):
        for bad in no_sequences() + [TRUST * 7, tuple(TRUST * 7), [None] * 7]:
            self.no_guess(bad, -1)

    def test_no_guess(self):
        form = (0, 1, -1)
        for bad in no_sequences() + [(), (2,), (2, form, 0), [2, form], (form, 2), "ab", form]:
            self.no_guess([bad], 0)
            self.no_guess((TRUST[0], bad, None), 1)
        for row in no_integers() + [-1, 6, 7, 10 ** 30]:
            self.no_guess([TRUST[0], TRUST[0], (row, form)], 2)
        for bad in no_sequences() + [(), (0,), (0, 1), (0, 1, 1, 1), [0, 1, -1], "abc"]:
            self.no_guess([(2, bad)], 0)
        for number in no_integers():
            for at in range(3):
                self.no_guess([(2, tuple(number if place == at else 0 for place in range(3)))], 0)
        self.no_guess(TRUST * 5 + [None], 5)

    def test_the_first_wrong_one(self):
        self.no_guess([(2, (1, 0, 0)), None], 1)
        self.no_guess([(9, None), (2, (1, 0, 0))], 0)

    def test_odd_objects_as_rows(self):
        for bad in odd_values():
            self.no_guess([(bad, bad)], 0)


class Arguments(unittest.TestCase):
    def test_names_lists_and_tuples(self):
        for asked in ALL:
            found = asked(pair(), TRUST)
            self.assertEqual(asked(guesses=tuple(TRUST), program=pair()), found)
            self.assertEqual(asked(pair(), [(2, (256, 1 - 256, 255 + 2 ** 70))]), found)

    def test_arguments_stay_and_lists_are_new(self):
        program, guesses = pair(), list(TRUST)
        for asked in ALL:
            first = asked(program, guesses)
            again = asked(program, guesses)
            self.assertEqual(guesses, TRUST)
            for item in first:
                if type(item) is list:
                    item.append(1)
                elif type(item) is tuple:
                    item[1].append(1)
            first.clear()
            self.assertEqual(asked(program, guesses), again)
        self.assertEqual(program, pair())


if __name__ == "__main__":
    unittest.main()
