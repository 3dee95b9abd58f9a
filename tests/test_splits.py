"""Rows that are split by an automaton: points 2, 3 and 60 to 62."""

import itertools
import random
import unittest

from leastkeep.behaviours import least_numbers
from leastkeep.codes import Code, run_code
from leastkeep.compiling import compiled
from leastkeep.errors import NoAutomaton
from leastkeep.joining import strays
from leastkeep.programs import Program
from leastkeep.runs import run
from leastkeep.splits import last_choices, split_code, split_numbers
from tests import brute
from tests.samples import (dense_program, double, no_integers, no_sequences, odd_values, random_automaton,
                           random_program, shifts)
from tests.test_compiling import runs_of


def known():
    """The program of the example: behind label 0 x is 5."""
    rows = [("ask", "x", 1), ("ask", "y", 2), ("choose", (3, 4)), ("set", "x", (5, 0, 0), 4), ("look", 5), ("stop",)]
    return Program(8, ["x", "y"], rows)


NUMBERS = [(0, 0, 0), (1, 0, 1), (2, 0, 2), (3, 1, 1), (4, 0, 2), (4, 1, 1), (5, 0, 0), (5, 1, 0)]


def pairs_in_order(program, automaton):
    """All pairs that are reached, in the order in which they are found."""
    found = [(0, 0)]
    for row, state in found:
        item = program.rows[row]
        nexts = item[1] if item[0] == "choose" else item[-1:] if item[0] != "stop" else ()
        for label, to in enumerate(nexts):
            after = automaton[state].get((row, label), state) if item[0] == "choose" else state
            if (to, after) not in found:
                found.append((to, after))
    return found


class Splits(unittest.TestCase):
    def test_examples(self):
        self.assertEqual(split_numbers(known(), [{(2, 0): 1}, {}]), NUMBERS)
        self.assertEqual(last_choices(known()), [(2, 2)])

    def test_by_name(self):
        self.assertEqual(split_numbers(automaton=[{(2, 0): 1}, {}], program=known()), NUMBERS)
        code, pairs = split_code(automaton=[{(2, 0): 1}, {}], program=known())
        self.assertEqual(pairs, [item[:2] for item in NUMBERS])
        self.assertEqual(code.counts, tuple(item[2] for item in NUMBERS))
        self.assertEqual(last_choices(program=known()), [(2, 2)])

    def check_numbers(self, program, automaton):
        found = split_numbers(program, automaton)
        self.assertEqual([item[:2] for item in found], pairs_in_order(program, automaton))
        self.assertEqual([type(part) for part in [found] + found], [list] + [tuple] * len(found))
        most = least_numbers(program)
        for row, _, number in found:
            self.assertLessEqual(number, most[row])
        return found

    def test_numbers_of_small_programs(self):
        for seed in range(150):
            program = random_program(seed)
            automaton = random_automaton(program, seed)
            states = brute.split_states(program, automaton)
            found = self.check_numbers(program, automaton)
            self.assertEqual({item[:2] for item in found}, set(states))
            for row, state, number in found:
                self.assertEqual(number, brute.least_for(program, row, states[row, state]))

    def check_code(self, program, automaton):
        made = split_code(program, automaton)
        self.assertIs(type(made), tuple)
        code, pairs = made
        numbers = split_numbers(program, automaton)
        self.assertEqual((type(code), type(pairs)), (Code, list))
        self.assertEqual(pairs, [item[:2] for item in numbers])
        self.assertEqual(list(code.counts), [item[2] for item in numbers])
        self.assertIsNone(strays(program, code))
        places = {pair: at for at, pair in enumerate(pairs)}
        for (row, state), item in zip(pairs, code.rows):
            chosen = program.rows[row][0] == "choose"
            nexts = program.rows[row][1] if chosen else program.rows[row][-1:] if item[0] != "stop" else ()
            self.assertEqual(item[1], tuple(places[to, automaton[state].get((row, label), state) if chosen else state]
                                            for label, to in enumerate(nexts)))
        return code, pairs

    def test_codes_of_small_programs(self):
        for seed in range(100):
            program = random_program(seed)
            automaton = random_automaton(program, seed)
            code, pairs = self.check_code(program, automaton)
            if len(program.variables) < 3:
                self.assertIsNone(brute.least_stray(program, code))
            for numbers in itertools.islice(runs_of(program, 5, (0, 1, -2)), 100):
                row, _, said = run(program, numbers)
                spot, registers, told = run_code(code, numbers)
                self.assertEqual((row, said, len(registers)), (pairs[spot][0], told, code.counts[spot]))

    def test_an_automaton_of_one_state(self):
        for seed in range(40):
            program = random_program(seed)
            numbers = least_numbers(program)
            for automaton in ([{}], ({},), [{key: 0 for key in random_automaton(program, seed, 1)[0]}]):
                found = self.check_numbers(program, automaton)
                self.assertEqual([item[2] for item in found], [numbers[item[0]] for item in found])
                code, pairs = self.check_code(program, automaton)
                self.assertEqual(code.counts, tuple(compiled(program).counts[row] for row, _ in pairs))

    def test_an_automaton_of_eight_states(self):
        ring = [{(1, 0): (state + 1) % 8} for state in range(8)]
        program = Program(8, ["x"], [("ask", "x", 1), ("choose", (2, 3)), ("set", "x", (0, 2), 1), ("look", 1)])
        numbers = {(row, state): number for row, state, number in self.check_numbers(program, ring)}
        self.assertEqual(len(numbers), 25)
        self.assertEqual({numbers[row, state] for row in (1, 3) for state in range(8)}, {1})
        self.assertEqual([numbers[2, state] for state in range(8)], [0] + [1] * 7)
        last = [{(1, 0): min(state + 1, 7)} for state in range(8)]
        numbers = {(row, state): number for row, state, number in self.check_numbers(program, last)}
        self.assertEqual([numbers[1, state] for state in range(8)], [1] * 8)
        self.assertEqual(numbers[2, 7], 1)
        four = Program(4, ["x"], program.rows)
        numbers = {(row, state): number for row, state, number in self.check_numbers(four, last)}
        self.assertEqual([numbers[1, state] for state in range(8)], [1, 1, 1, 1, 0, 0, 0, 0])
        self.check_code(four, last)
        self.check_code(program, ring)

    def test_states_that_no_label_leads_to(self):
        self.assertEqual(split_numbers(known(), [{}, {(2, 0): 2}, {}]), [(row, 0, number) for row, number in
                                                                       enumerate(least_numbers(known()))])
        self.assertEqual(split_numbers(known(), [{(2, 0): 2}, {}, {}]),
                         [(row, 2 * state, number) for row, state, number in NUMBERS])

    def test_keys_at_rows_that_no_run_reaches(self):
        rows = known().rows + (("choose", (0, 6)),)
        program = Program(8, ["x", "y"], rows)
        self.assertEqual(split_numbers(program, [{(2, 0): 1, (6, 0): 1, (6, 1): 0}, {(6, 1): 1}]), NUMBERS)
        self.assertEqual(last_choices(program), [(2, 2), (6, 2)])
        self.check_code(program, [{(2, 0): 1, (6, 0): 1}, {(6, 1): 1}])

    def test_the_label_at_row_0(self):
        program = Program(8, ["x"], [("choose", (1, 0)), ("ask", "x", 2), ("look", 0)])
        self.assertEqual(split_numbers(program, [{(0, 0): 1}, {(0, 1): 0}]),
                         [(0, 0, 0), (1, 1, 0), (2, 1, 1), (0, 1, 0)])
        self.check_code(program, [{(0, 0): 1}, {(0, 1): 0}])

    def test_choose_rows_with_one_label(self):
        program = Program(8, ["x"], [("choose", (1,)), ("choose", (2, 0)), ("stop",)])
        self.assertEqual(split_numbers(program, [{(0, 0): 1, (1, 1): 0}, {(1, 0): 0}]),
                         [(0, 0, 0), (1, 1, 0), (2, 0, 0), (0, 1, 0)])
        self.assertEqual(last_choices(program), [(1, 0)])

    def test_wide_programs_with_loops(self):
        for program in [dense_program(), dense_program(1), shifts()] + [random_program(n, 64, 6, 25) for n in range(8)]:
            self.check_code(program, random_automaton(program, 5, 8))
        self.assertGreater(len(self.check_numbers(dense_program(), random_automaton(dense_program(), 5, 8))), 100)

    def test_long_wide_runs(self):
        program = dense_program()
        code, pairs = split_code(program, random_automaton(program, 5, 8))
        rng = random.Random(4)
        for _ in range(10):
            numbers, row = [], 0
            for _ in range(150):
                item = program[row]
                numbers.append(rng.getrandbits(64) if item[0] == "ask" else
                               rng.randrange(len(item[1])) if item[0] == "choose" else 0)
                row = item[1][numbers[-1]] if item[0] == "choose" else item[-1]
            self.assertEqual(run(program, numbers)[2], run_code(code, numbers)[2])
            self.assertEqual(pairs[run_code(code, numbers)[0]][0], row)


class LastChoices(unittest.TestCase):
    def greatest(self, program, row):
        labels = len(program[row][1])
        automaton = [{(row, label): label + 1 for label in range(labels)} for _ in range(labels + 1)]
        return max(number for _, _, number in split_numbers(program, automaton))

    def test_small_programs(self):
        for seed in range(80):
            program = random_program(seed)
            wished = [(row, self.greatest(program, row)) for row in range(len(program))
                      if program[row][0] == "choose" and len(program[row][1]) > 1]
            found = last_choices(program)
            self.assertEqual(found, wished)
            self.assertEqual((type(found), {type(item) for item in found} or {tuple}), (list, {tuple}))
            for row, number in found:
                labels = len(program[row][1])
                states = brute.split_states(program, [{(row, label): label + 1 for label in range(labels)}
                                                      for _ in range(labels + 1)])
                self.assertEqual(number, max(brute.least_for(program, pair[0], there) for pair, there in states.items()))

    def test_six_labels(self):
        rows = [("ask", "x", 1), ("ask", "y", 2), ("choose", (3, 4, 5, 6, 6, 3)), ("set", "x", (0, 0, 1), 6),
                ("set", "y", (1, 2, 0), 6), ("set", "y", (9, 0, 0), 6), ("choose", (7,)), ("look", 8), ("stop",)]
        self.assertEqual(last_choices(Program(8, ["x", "y"], rows)), [(2, 2)])
        rows[1] = ("set", "x", (0, 1, 0), 2)
        self.assertEqual(last_choices(Program(8, ["x", "y"], rows)), [(2, 1)])

    def test_what_a_label_tells(self):
        rows = [("choose", (1, 2)), ("set", "x", (7, 0), 3), ("set", "x", (9, 0), 3), ("choose", (4, 5)), ("look", 5),
                ("stop",)]
        program = Program(8, ["x"], rows)
        self.assertEqual(least_numbers(program), [0, 0, 0, 1, 1, 0])
        self.assertEqual(last_choices(program), [(0, 0), (3, 1)])

    def test_rows_that_no_run_reaches(self):
        program = Program(8, ["x"], [("ask", "x", 1), ("look", 2), ("stop",), ("choose", (3, 3)), ("choose", (3,))])
        self.assertEqual(last_choices(program), [(3, 1)])
        self.assertEqual(last_choices(double()), [(2, 1)])
        self.assertEqual(last_choices(Program(8, ["x"], [("look", 0)])), [])

    def test_wide_programs_with_loops(self):
        most = max(least_numbers(dense_program()))
        self.assertEqual([row for row, _ in last_choices(dense_program())], [2, 6, 10, 14, 18, 22])
        self.assertLessEqual(max(number for _, number in last_choices(dense_program())), most)
        rows = [("choose", tuple((at + step) % 25 for step in range(1, 7))) if at % 2 else
                ("ask", "abcdef"[at % 6], at + 1) if at < 12 else
                ("set", "abcdef"[at % 6], (at, 1, 2, 3, 4, 5, 6), (at + 1) % 25) for at in range(24)] + [("look", 0)]
        found = last_choices(Program(64, list("abcdef"), rows))
        self.assertEqual([row for row, _ in found], list(range(1, 24, 2)))


class Wrong(unittest.TestCase):
    def no_automaton(self, automaton, index):
        for asked in (split_numbers, split_code):
            with self.assertRaises(NoAutomaton) as caught:
                asked(known(), automaton)
            self.assertEqual(caught.exception.index, index)

    def test_no_list(self):
        for bad in odd_values() + no_sequences() + [[], (), [{}] * 9, ({},) * 9, [None] * 9, "ab"]:
            self.no_automaton(bad, -1)

    def test_no_dict(self):
        for bad in [value for value in odd_values() + no_sequences() if type(value) is not dict] + [[], (), [(2, 0)]]:
            self.no_automaton([bad], 0)
            self.no_automaton(({}, bad, bad), 1)
            self.no_automaton([{(2, 0): 1}, {}, bad], 2)

    def test_keys(self):
        hashable = [value for value in odd_values() if type(value).__hash__ is not None]
        keys = hashable + ["", "ab", 0, (), (2,), (2, 0, 0), (2, 2), (2, -1), (0, 0), (4, 0), (6, 0), (-1, 0), (2, "0"),
                           (2, True), (True, 0), (2, None), (None, 0), ((2, 0),), frozenset((2, 0)), (2, 10 ** 30)]
        for key in keys:
            self.no_automaton([{key: 0}], 0)
            self.no_automaton([{(2, 0): 1}, {(2, 0): 0, key: 0}], 1)

    def test_states(self):
        for bad in no_integers() + [-1, 2, 8, 10 ** 30]:
            self.no_automaton([{(2, 0): bad}, {}], 0)
            self.no_automaton([{(2, 0): 1, (2, 1): 1}, {(2, 0): 0, (2, 1): bad}], 1)
        self.no_automaton([{(2, 0): 1}], 0)

    def test_the_first_wrong_one(self):
        self.no_automaton([{(2, 0): 3}, None, {}], 0)
        self.no_automaton([{}, {(9, 9): 0}, None], 1)
        one = Program(8, ["x"], [("choose", (0,))])
        self.assertEqual(split_numbers(one, [{(0, 0): 0}]), [(0, 0, 0)])
        with self.assertRaises(NoAutomaton):
            split_numbers(one, [{(0, 1): 0}])


class Arguments(unittest.TestCase):
    def test_lists_and_tuples_and_orders_of_keys(self):
        program = known()
        for automaton in ([{(2, 0): 1, (2, 1): 0}, {}], ({(2, 1): 0, (2, 0): 1}, {})):
            self.assertEqual(split_numbers(program, automaton), NUMBERS)
            self.assertEqual(split_code(program, automaton), split_code(program, [{(2, 0): 1}, {}]))

    def test_arguments_stay_and_lists_are_new(self):
        program, automaton = known(), [{(2, 0): 1}, {}]
        first = split_numbers(program, automaton)
        code, pairs = split_code(program, automaton)
        first.append(1)
        pairs.clear()
        self.assertEqual(automaton, [{(2, 0): 1}, {}])
        self.assertEqual(split_numbers(program, automaton), NUMBERS)
        self.assertEqual(split_code(program, automaton)[1], [item[:2] for item in NUMBERS])
        automaton[0].clear()
        self.assertEqual(code, split_code(program, [{(2, 0): 1}, {}])[0])
        found = last_choices(program)
        found.clear()
        self.assertEqual(last_choices(program), [(2, 2)])


if __name__ == "__main__":
    unittest.main()
